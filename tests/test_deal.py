from helpers import (
    DONE, HIGHEST, LOWEST, STAND, TableTest, begin, deal, insure, last, play, stake, states, table_behind,
)


def all_stake(seats):
    return [stake(seat, 10) for seat in range(seats)]


def hands_of(*calls):
    return [[hand.cards for hand in seat.hands] for seat in table_behind(*calls).seats]


class Deal(TableTest):
    def test_cards_go_by_seats_and_the_dealer_in_turn(self):
        calls = [begin(4), stake(3, 30), stake(1, 10), deal(2, 3, 9, 4, 5, 8)]
        self.assertEqual(play(*calls)[-1], [0, 2, 1, 0, 9])
        self.assertEqual(hands_of(*calls), [[], [[2, 4]], [], [[3, 5]]])
        self.assertEqual(table_behind(*calls).dealer, [9, 8])
        self.assertEqual([[hand.stake for hand in seat.hands] for seat in table_behind(*calls).seats],
                         [[], [10], [], [30]])

    def test_one_seat_and_seven(self):
        self.assertEqual(last(begin(), stake(0, 1), deal(2, 10, 3, 4)), [0, 2, 0, 0, 10])
        cards = [2, 3, 4, 5, 6, 7, 8, 9, 2, 3, 4, 5, 6, 7, 8, 9]
        calls = [begin(7), *all_stake(7), deal(*cards)]
        self.assertEqual(last(*calls), [0, 2, 0, 0, 9])
        self.assertEqual(hands_of(*calls), [[[card, card]] for card in range(2, 9)])

    def test_what_the_dealer_counts_is_the_first_card_alone(self):
        for card, points in ((2, 2), (9, 9), (10, 10), (11, 10), (13, 10)):
            self.assertEqual(last(begin(), stake(0, 1), deal(2, card, 3, 4)), [0, 2, 0, 0, points])

    def test_a_dealers_ace_counts_11_and_brings_insurance(self):
        self.assertEqual(last(begin(2), stake(1, 1), deal(2, 1, 3, 4)), [0, 1, -1, -1, 11])
        self.assertEqual(last(begin(), stake(0, 1), deal(2, 1, 3, 10)), [0, 1, -1, -1, 11])
        self.assertEqual(states(begin(2), *all_stake(2), deal(10, 9, 1, 1, 9, 10)), [[0], [0]])

    def test_a_dealers_natural_behind_a_ten_is_paid_at_once(self):
        for ten in (10, 11, 12, 13):
            self.assertEqual(last(begin(), stake(0, 1), deal(2, ten, 3, 1)), [0, 4, -1, -1, 21])
        self.assertEqual(states(begin(2), *all_stake(2), deal(10, 9, 13, 1, 9, 1)), [[1], [0]])

    def test_naturals_stand_of_themselves(self):
        calls = [begin(3), *all_stake(3), deal(10, 5, 1, 6, 1, 6, 13, 10)]
        self.assertEqual(last(*calls), [0, 2, 1, 0, 6])
        self.assertEqual(states(*calls), [[1], [0], [1]])
        self.assertEqual(last(*calls, STAND), [11, 3, -1, -1, 16])

    def test_naturals_alone_are_paid_at_once(self):
        self.assertEqual(last(begin(), stake(0, 1), deal(1, 6, 10, 6)), [0, 4, -1, -1, 12])
        self.assertEqual(last(begin(3), stake(0, 1), stake(2, 1), deal(1, 13, 2, 12, 1, 3)), [0, 4, -1, -1, 5])

    def test_the_cards_leave_the_shoe(self):
        shoe = table_behind(begin(), stake(0, 1), deal(1, 6, 10, 6)).shoe
        self.assertEqual(shoe.left, [3, 4, 4, 4, 4, 2, 4, 4, 4, 3, 4, 4, 4])

    def test_a_card_that_is_none(self):
        for card in (0, 14, -1, LOWEST, HIGHEST):
            for place in range(4):
                cards = [2, 10, 3, 4]
                cards[place] = card
                self.refused([begin(), stake(0, 1)], deal(*cards), -1)
        self.assertEqual(last(begin(), stake(0, 1), deal(13, 13, 1, 13)), [0, 4, -1, -1, 20])

    def test_only_while_stakes_are_told(self):
        insurance = [begin(), stake(0, 10), deal(10, 1, 7, 10)]
        hands = [begin(), stake(0, 10), deal(10, 9, 7, 10)]
        dealer = [begin(), stake(0, 10), deal(10, 6, 7, 10), STAND]
        for before in (insurance, hands, dealer, hands + [STAND]):
            self.refused(before, deal(2, 3, 4, 5), -3)
            self.refused(before, deal(), -3)
            self.refused(before, deal(2, 2, 2, 2, 2), -3)
            self.refused(before, deal(2, 3, 4, 0), -1)

    def test_nobody_has_staked(self):
        self.refused([begin()], deal(), -4)
        self.refused([begin()], deal(2, 3), -4)
        self.refused([begin()], deal(2, 3, 4, 5), -4)

    def test_too_few_or_too_many_cards(self):
        before = [begin(3), stake(0, 1), stake(2, 1)]
        for many in (0, 1, 2, 4, 5, 7, 8, 20):
            self.refused(before, deal(*[card % 13 + 1 for card in range(many)]), -4)
        self.assertEqual(last(*before, deal(2, 3, 4, 5, 6, 7)), [0, 2, 0, 0, 4])

    def test_the_shoe_has_not_these(self):
        self.refused([begin(7), *all_stake(2)], deal(5, 5, 5, 5, 5, 6), -5)
        self.assertEqual(last(begin(7), *all_stake(2), deal(5, 5, 6, 5, 5, 6)), [0, 2, 0, 0, 6])
        self.assertEqual(last(begin(7, 2), *all_stake(2), deal(5, 5, 5, 5, 5, 6)), [0, 2, 0, 0, 5])
        used = [begin(), stake(0, 1), deal(10, 10, 10, 9), STAND, stake(0, 1)]
        self.refused(used, deal(10, 10, 2, 3), -5)
        self.assertEqual(last(*used, deal(10, 2, 2, 3)), [0, 2, 0, 0, 2])

    def test_the_refusal_told_first(self):
        self.refused([begin()], deal(0), -1)
        self.refused([begin()], deal(5, 5, 5, 5, 5), -4)
        self.refused([begin(), stake(0, 1)], deal(5, 5, 5, 5, 5), -4)
        self.refused([begin(), stake(0, 1)], deal(5, 5, 5, 5, 5, 14), -1)
        self.refused([begin(7), *all_stake(2)], deal(5, 5, 5, 5, 5, 0), -1)
        self.refused([begin(), stake(0, 1), deal(2, 1, 3, 4)], deal(2, 2, 2, 2), -3)
        self.refused([begin(), stake(0, 1), deal(2, 1, 3, 4), insure(0, 1), DONE, STAND], deal(*[2] * 20), -3)
