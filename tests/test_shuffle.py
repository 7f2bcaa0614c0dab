from helpers import (
    HIGHEST, LOWEST, NOW, PHASES, SHOE, STAND, TableTest, ask_seat, begin, deal, dealer, last, play, shuffle, split,
    stake, won,
)

SEATS = [NOW, ask_seat(0), ask_seat(1), ask_seat(2)]


class Shuffle(TableTest):
    def test_answers_how_many_cards_the_shoe_has(self):
        for decks in range(1, 9):
            found = play(begin(decks=3), shuffle(decks), SHOE)
            self.assertEqual(found, [[156], [52 * decks], [52 * decks] + [4 * decks] * 13])

    def test_not_1_to_8(self):
        for decks in (0, 9, -1, LOWEST, HIGHEST):
            self.refused([begin()], shuffle(decks), -1)
            for phase in PHASES:
                self.refused(PHASES[phase], shuffle(decks), -1)
            self.refused([], shuffle(decks), -1)

    def test_no_table(self):
        for decks in (1, 8):
            self.refused([], shuffle(decks), -2)
            self.refused([begin(seats=8)], shuffle(decks), -2)
            self.refused([begin(decks=9), stake(0, 5)], shuffle(decks), -2)

    def test_only_while_stakes_are_told_or_all_is_paid(self):
        for phase in (1, 2, 3):
            for decks in (1, 8):
                self.refused(PHASES[phase], shuffle(decks), -3)
        self.assertEqual(last(*PHASES[3], dealer(1), shuffle(1)), [52])

    def test_the_stakes_stay(self):
        before = [begin(3, 2), stake(0, 10), stake(2, 7)]
        self.assertEqual(play(*before, shuffle(1), *SEATS)[-4:], play(*before, *SEATS)[-4:])
        self.assertEqual(last(*before, shuffle(1), deal(2, 3, 4, 5, 6, 7)), [0, 2, 0, 0, 4])

    def test_what_is_won_and_the_last_hands_stay(self):
        for before in (PHASES[4], PHASES[2] + [split(3, 13), STAND, STAND, dealer(2)]):
            kept = play(*before, *SEATS)[-4:]
            found = play(*before, shuffle(8), SHOE, *SEATS)[-6:]
            self.assertEqual(found, [[416], [416] + [32] * 13] + kept)
            self.assertEqual(kept[0][:2], [4, 4])
            self.assertGreater(kept[1][3], 0)

    def test_cards_that_were_gone_are_there_again(self):
        before = [begin(), stake(0, 1), deal(10, 10, 10, 10), STAND]
        self.refused(before + [stake(0, 1)], deal(10, 9, 8, 7), -5)
        self.assertEqual(play(*before, shuffle(1), stake(0, 1), deal(10, 10, 10, 10), SHOE)[-2:],
                         [[0, 2, 0, 0, 10], [48, 4, 4, 4, 4, 4, 4, 4, 4, 4, 0, 4, 4, 4]])
        self.assertEqual(last(*before, stake(0, 1), shuffle(1), deal(10, 10, 10, 10)), [0, 2, 0, 0, 10])

    def test_it_begins_no_round(self):
        before = PHASES[4] + [shuffle(2)]
        self.refused(before, deal(2, 3, 4, 5), -3)
        self.assertEqual(last(*before, NOW), [4, 4, -1, -1, 19])
        self.assertEqual(won(*before), won(*PHASES[4]))
        self.assertEqual(last(*before, stake(1, 4), NOW), [0, 0, -1, -1, 0])

    def test_the_rules_stay(self):
        before = [begin(2, 1, 1, 1, 1, 4), shuffle(2), stake(0, 10), deal(8, 6, 8, 1)]
        self.assertEqual(last(*before, split(8, 8)), [2, 2, 0, 0, 6])
        self.assertEqual(last(*before, STAND), [16, 3, -1, -1, 17])

    def test_a_fuller_and_an_emptier_shoe(self):
        self.assertEqual(play(begin(decks=8), shuffle(1), shuffle(8), shuffle(2))[1:], [[52], [416], [104]])
