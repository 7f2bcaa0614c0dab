from helpers import (
    GIVE, HIGHEST, LOWEST, NOW, PHASES, SHOE, STAND, TableTest, ask_seat, begin, deal, dealer, double, hit, insure,
    last, play, shuffle, split, stake, table_behind,
)

ALONE = [stake(0, 10), deal(10, 9, 7, 10)]


class Begin(TableTest):
    def test_answers_the_size_of_the_shoe_alone(self):
        self.assertEqual(play(begin()), [[52]])
        self.assertEqual(last(begin(seats=3, decks=6, soft=1, again=1, giving=1, hands=4)), [312])

    def test_each_edge_is_taken(self):
        for decks in range(1, 9):
            self.assertEqual(last(begin(decks=decks)), [52 * decks])
        for seats in range(1, 8):
            self.assertEqual(last(begin(seats=seats), stake(seats - 1, 5)), [5])
            self.assertEqual(last(begin(seats=seats), stake(seats, 5)), [-1])
        for hands in range(1, 5):
            self.assertEqual(last(begin(hands=hands)), [52])
        for soft in (0, 1):
            for again in (0, 1):
                for giving in (0, 1):
                    self.assertEqual(last(begin(soft=soft, again=again, giving=giving)), [52])

    def test_the_shoe_has_four_of_each_sort_for_each_deck(self):
        self.assertEqual(table_behind(begin(decks=1)).shoe.left, [4] * 13)
        self.assertEqual(table_behind(begin(decks=8)).shoe.left, [32] * 13)

    def test_what_is_out_of_range_is_refused(self):
        wrong = [
            ("seats", (0, 8, -1)), ("decks", (0, 9, -1)), ("hands", (0, 5, -1)),
            ("soft", (-1, 2)), ("again", (-1, 2)), ("giving", (-1, 2)),
        ]
        for name, numbers in wrong:
            for number in numbers + (LOWEST, HIGHEST):
                self.refused([], begin(**{name: number}), -1)
                self.refused([begin(2), stake(0, 10), deal(10, 9, 7, 10)], begin(**{name: number}), -1)

    def test_several_wrong_numbers_are_one_refusal(self):
        self.refused([begin()], begin(0, 9, 2, 2, 2, 5), -1)

    def test_a_refused_begin_makes_no_table(self):
        self.assertEqual(play(begin(seats=8), stake(0, 1)), [[-1], [-1]])

    def test_begins_anew_in_each_phase(self):
        phases = [
            [],
            [stake(0, 10)],
            [stake(0, 10), deal(10, 1, 7, 10)],
            ALONE,
            ALONE + [STAND, stake(0, 3)],
            [stake(0, 10), deal(10, 6, 7, 10), STAND],
            ALONE + [STAND],
        ]
        for before in phases:
            table = table_behind(begin(3, 2, 1, 1, 1, 4), *before, begin(2, 3))
            self.assertEqual(vars(table.shoe), {"left": [12] * 13})
            self.assertEqual(len(table.seats), 2)
            self.assertEqual([vars(seat) for seat in table.seats],
                             [{"stake": 0, "insured": 0, "won": 0, "hands": []}] * 2)
            self.assertEqual((table.draws_soft, table.doubles_parted, table.lets_give_up, table.most_hands),
                             (False, False, False, 1))
            self.assertEqual(table.standing(), [0, -1, -1, 0])
            self.assertEqual(play(begin(3), *before, begin(2, 3), deal())[-2:], [[156], [-4]])

    def test_what_was_is_gone(self):
        for phase, before in PHASES.items():
            found = play(*before, begin(2, 3), NOW, SHOE, ask_seat(0), ask_seat(1), ask_seat(2))[-5:]
            self.assertEqual(found, [[0, 0, -1, -1, 0], [156] + [12] * 13, [0] * 4, [0] * 4, [-1]], phase)

    def test_the_rules_are_kept(self):
        table = table_behind(begin(1, 1, 1, 0, 0, 3))
        self.assertEqual((table.draws_soft, table.doubles_parted, table.lets_give_up, table.most_hands),
                         (True, False, False, 3))
        self.assertTrue(table_behind(begin(again=1)).doubles_parted)
        self.assertTrue(table_behind(begin(giving=1)).lets_give_up)


class NoTable(TableTest):
    def test_each_call_ahead_of_the_first_begin(self):
        self.refused([], stake(0, 10), -1)
        self.refused([], stake(-1, 10), -1)
        self.refused([], deal(), -4)
        self.refused([], deal(10, 9, 7, 10), -4)
        self.refused([], deal(10, 9, 7, 14), -1)
        self.refused([], insure(0, 1), -1)
        self.refused([], insure(-1, 1), -3)
        self.refused([], insure(-1, 0), -3)
        self.refused([], insure(-1, 2), -1)
        self.refused([], hit(5), -3)
        self.refused([], hit(0), -1)
        self.refused([], STAND, -3)
        self.refused([], double(5), -3)
        self.refused([], double(14), -1)
        self.refused([], split(5, 5), -3)
        self.refused([], split(5, 14), -1)
        self.refused([], split(0, 5), -1)
        self.refused([], GIVE, -3)
        self.refused([], dealer(), -3)
        self.refused([], dealer(5), -3)
        self.refused([], dealer(5, 14), -1)
        for decks in (1, 8):
            self.refused([], shuffle(decks), -2)
        for decks in (0, 9):
            self.refused([], shuffle(decks), -1)
        for seat in (-1, 0, 6, 7):
            self.refused([], ask_seat(seat), -1)

    def test_what_is_told_without_a_table(self):
        self.assertEqual(play(NOW, SHOE), [[0, 0, -1, -1, 0], [0] * 14])
        self.assertEqual(play(begin(0), NOW, SHOE, ask_seat(0)), [[-1], [0, 0, -1, -1, 0], [0] * 14, [-1]])

    def test_how_it_stands_without_a_table(self):
        table = table_behind()
        self.assertEqual(table.standing(), [0, -1, -1, 0])
        self.assertEqual(table.seats, [])
        self.assertEqual(table.shoe.left, [0] * 13)
