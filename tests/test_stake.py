from helpers import (
    DONE, HIGHEST, LOWEST, STAND, TableTest, begin, deal, insure, last, play, stake, states, table_behind,
)

PAID = [begin(2), stake(0, 10), deal(10, 9, 7, 10), STAND]


def stakes(*calls):
    return [seat.stake for seat in table_behind(*calls).seats]


class Stake(TableTest):
    def test_answers_the_units_alone(self):
        self.assertEqual(play(begin(7), stake(0, 1), stake(6, 1000), stake(3, 0)), [[52], [1], [1000], [0]])

    def test_the_edges_of_units(self):
        self.assertEqual(last(begin(), stake(0, 0)), [0])
        self.assertEqual(last(begin(), stake(0, 1000)), [1000])
        for units in (-1, 1001, LOWEST, HIGHEST):
            self.refused([begin(), stake(0, 7)], stake(0, units), -1)

    def test_no_such_seat(self):
        for seat in (-1, 2, 7, LOWEST, HIGHEST):
            self.refused([begin(2), stake(1, 7)], stake(seat, 10), -1)

    def test_only_while_stakes_are_told_or_all_is_paid(self):
        insurance = [begin(), stake(0, 10), deal(10, 1, 7, 10)]
        hands = [begin(), stake(0, 10), deal(10, 9, 7, 10)]
        dealer = [begin(), stake(0, 10), deal(10, 6, 7, 10), STAND]
        for before in (insurance, hands, dealer):
            self.refused(before, stake(0, 5), -3)
            self.refused(before, stake(0, 0), -3)
            self.refused(before, stake(1, 5), -1)
            self.refused(before, stake(0, 1001), -1)

    def test_a_later_stake_takes_the_place_of_an_earlier(self):
        self.assertEqual(stakes(begin(2), stake(0, 10), stake(1, 4), stake(0, 3)), [3, 4])

    def test_a_stake_of_0_does_not_play(self):
        self.assertEqual(play(begin(2), stake(0, 10), stake(1, 5), stake(0, 0), deal(10, 9, 7, 10))[-1],
                         [0, 2, 1, 0, 9])
        self.assertEqual(last(begin(), stake(0, 10), stake(0, 0), deal(10, 9, 7, 10)), [-4])

    def test_a_new_round_clears_the_last_one(self):
        before = [begin(3), stake(0, 10), stake(2, 4), deal(10, 9, 1, 7, 8, 10), insure(0, 1), insure(2, 1), DONE,
                  STAND, STAND]
        table = table_behind(*before)
        self.assertEqual((table.phase, table.dealer), (4, [1, 10]))
        table = table_behind(*before, stake(1, 6))
        self.assertEqual(table.standing(), [0, -1, -1, 0])
        self.assertEqual([vars(seat) for seat in table.seats], [
            {"stake": 0, "insured": 0, "won": 0, "hands": []},
            {"stake": 6, "insured": 0, "won": 0, "hands": []},
            {"stake": 0, "insured": 0, "won": 0, "hands": []},
        ])

    def test_only_the_first_stake_begins_a_new_round(self):
        self.assertEqual(stakes(*PAID, stake(1, 6), stake(0, 2)), [2, 6])
        self.assertEqual(stakes(*PAID, stake(0, 0)), [0, 0])
        self.assertEqual(last(*PAID, stake(1, 0), deal(10, 9, 7, 10)), [-4])

    def test_a_refused_stake_begins_no_round(self):
        self.refused(PAID, stake(2, 10), -1)
        self.refused(PAID, stake(0, 1001), -1)
        self.refused(PAID + [stake(2, 10)], deal(10, 9, 7, 10), -3)

    def test_what_is_won_and_what_left_the_shoe_stays(self):
        table = table_behind(*PAID, stake(0, 10))
        self.assertEqual(table.seats[0].won, -20)
        self.assertEqual(table.shoe.size(), 48)
        table = table_behind(*PAID, stake(0, 10), deal(10, 9, 10, 8), STAND)
        self.assertEqual((table.seats[0].won, table.shoe.size(), table.shoe.left[9]), (0, 44, 0))
        self.assertEqual(states(*PAID, stake(1, 10), deal(10, 9, 10, 8)), [[], [0]])
