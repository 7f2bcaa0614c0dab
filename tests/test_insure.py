from helpers import (
    DONE, HIGHEST, LOWEST, STAND, TableTest, begin, deal, hit, insure, last, play, stake, states, table_behind, won,
)

NATURAL = [begin(3), stake(0, 10), stake(2, 7), deal(10, 9, 1, 8, 9, 13)]
NONE = [begin(3), stake(0, 10), stake(2, 7), deal(10, 9, 1, 8, 9, 6)]


def insured(*calls):
    return [seat.insured for seat in table_behind(*calls).seats]


class Insure(TableTest):
    def test_answers_what_was_told_alone(self):
        self.assertEqual(play(*NATURAL, insure(0, 1), insure(2, 0), insure(0, 0))[4:], [[1], [0], [0]])

    def test_it_is_had_on_the_whole_stake(self):
        self.assertEqual(insured(*NATURAL), [0, 0, 0])
        self.assertEqual(insured(*NATURAL, insure(2, 1)), [0, 0, 7])
        self.assertEqual(insured(*NATURAL, insure(2, 1), insure(2, 1)), [0, 0, 7])
        self.assertEqual(insured(*NATURAL, insure(2, 1), insure(0, 1)), [10, 0, 7])

    def test_it_is_taken_back(self):
        self.assertEqual(insured(*NATURAL, insure(2, 1), insure(0, 1), insure(2, 0)), [10, 0, 0])
        self.assertEqual(won(*NATURAL, insure(0, 1), insure(0, 0), DONE), [-20, 0, -14])

    def test_it_stands_as_it_stood_till_it_is_done(self):
        self.assertEqual(table_behind(*NATURAL, insure(0, 1)).standing(), [1, -1, -1, 11])
        self.assertEqual(states(*NATURAL, insure(0, 1)), [[0], [], [0]])

    def test_done_looks_for_the_dealers_natural(self):
        self.assertEqual(last(*NATURAL, DONE), [0, 4, -1, -1, 21])
        self.assertEqual(last(*NATURAL, insure(-1, 1)), [0, 4, -1, -1, 21])
        self.assertEqual(last(*NONE, DONE), [0, 2, 0, 0, 11])
        self.assertEqual(last(*NONE, insure(-1, 1)), [0, 2, 0, 0, 11])

    def test_done_insures_nobody(self):
        self.assertEqual(insured(*NONE, insure(-1, 1)), [0, 0, 0])
        self.assertEqual(insured(*NONE, insure(0, 1), insure(-1, 0)), [10, 0, 0])

    def test_hands_behind_a_dealers_natural(self):
        before = [begin(3), stake(0, 10), stake(2, 10), deal(10, 1, 1, 9, 13, 12)]
        self.assertEqual(states(*before), [[0], [], [0]])
        self.assertEqual(states(*before, DONE), [[0], [], [1]])

    def test_the_first_hand_that_is_no_natural_is_asked(self):
        before = [begin(3), stake(0, 10), stake(2, 10), deal(1, 10, 1, 13, 9, 5)]
        self.assertEqual(last(*before, DONE), [0, 2, 2, 0, 11])
        self.assertEqual(states(*before, DONE), [[1], [], [0]])

    def test_naturals_alone_are_paid_when_it_is_done(self):
        before = [begin(), stake(0, 10), deal(1, 1, 13, 9)]
        self.assertEqual(last(*before, DONE), [0, 4, -1, -1, 20])
        self.assertEqual(won(*before, DONE), [30])
        self.assertEqual(won(*before, insure(0, 1), DONE), [20])

    def test_it_pays(self):
        self.assertEqual(won(*NATURAL, insure(0, 1), DONE), [0, 0, -14])
        self.assertEqual(won(*NATURAL, insure(0, 1), insure(2, 1), DONE), [0, 0, 0])

    def test_it_pays_behind_a_natural_of_the_seat(self):
        before = [begin(), stake(0, 10), deal(1, 1, 13, 10)]
        self.assertEqual(won(*before, DONE), [0])
        self.assertEqual(won(*before, insure(0, 1), DONE), [20])

    def test_it_is_lost(self):
        calls = [*NONE, insure(2, 1), DONE, STAND, hit(5)]
        self.assertEqual(won(*calls), [20, 0, -21])

    def test_no_such_seat(self):
        for seat in (-2, 3, 7, LOWEST, HIGHEST):
            self.refused(NATURAL, insure(seat, 1), -1)

    def test_not_0_or_1(self):
        for yes in (-1, 2, LOWEST, HIGHEST):
            for seat in (0, 1, -1):
                self.refused(NATURAL, insure(seat, yes), -1)

    def test_only_while_insurance_may_be_had(self):
        hands = [begin(2), stake(0, 10), deal(10, 9, 7, 10)]
        dealer = [begin(2), stake(0, 10), deal(10, 6, 7, 10), STAND]
        for before in ([begin(2)], [begin(2), stake(0, 10)], hands, dealer, NONE + [DONE], NATURAL + [DONE]):
            for seat in (0, 1, -1):
                self.refused(before, insure(seat, 1), -3)
                self.refused(before, insure(seat, 0), -3)
                self.refused(before, insure(seat, 2), -1)
            self.refused(before, insure(-2, 1), -1)

    def test_a_seat_that_has_not_staked(self):
        self.refused(NATURAL, insure(1, 1), -4)
        self.refused(NATURAL, insure(1, 0), -4)
        self.refused(NATURAL + [insure(0, 1)], insure(1, 1), -4)
        self.refused(NATURAL, insure(1, 2), -1)

    def test_it_does_not_last_into_the_next_round(self):
        self.assertEqual(insured(*NATURAL, insure(0, 1), DONE), [10, 0, 0])
        before = [*NATURAL, insure(0, 1), DONE, stake(0, 10)]
        self.assertEqual(insured(*before), [0, 0, 0])
        self.assertEqual(won(*before, deal(10, 1, 9, 13), DONE), [-20, 0, -14])
