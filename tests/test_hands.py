"""hit, stand and double: the calls about the hand whose turn it is."""

from helpers import (
    DONE, HIGHEST, LOWEST, NOT_HANDS, STAND, TableTest, begin, deal, double, hit, last, play, stake, states,
    table_behind,
)

ONE = [begin(), stake(0, 10), deal(5, 9, 6, 10)]
THREE = [begin(4, 2), stake(0, 10), stake(1, 20), stake(3, 40), deal(5, 6, 7, 9, 6, 7, 8, 10)]
ALL_FIVES = [begin(2), stake(0, 10), stake(1, 10), deal(5, 5, 9, 5, 5, 10)]


def hands_of(*calls):
    return [[vars(hand) for hand in seat.hands] for seat in table_behind(*calls).seats]


class Hit(TableTest):
    def test_answers_what_the_hand_counts_and_how_it_stands(self):
        self.assertEqual(play(*ONE, hit(2), hit(3), hit(4))[3:],
                         [[13, 2, 0, 0, 9], [16, 2, 0, 0, 9], [20, 2, 0, 0, 9]])
        self.assertEqual(table_behind(*ONE, hit(2), hit(3)).seats[0].hands[0].cards, [5, 6, 2, 3])

    def test_20_is_in_play_and_21_stands_and_22_is_beyond(self):
        before = [begin(2), stake(0, 1), stake(1, 1), deal(6, 6, 9, 6, 6, 10)]
        self.assertEqual(last(*before, hit(8)), [20, 2, 0, 0, 9])
        self.assertEqual(states(*before, hit(8)), [[0], [0]])
        self.assertEqual(last(*before, hit(9)), [21, 2, 1, 0, 9])
        self.assertEqual(states(*before, hit(9)), [[1], [0]])
        self.assertEqual(last(*before, hit(10)), [22, 2, 1, 0, 9])
        self.assertEqual(states(*before, hit(10)), [[2], [0]])

    def test_an_ace_gives_way(self):
        before = [begin(), stake(0, 1), deal(1, 9, 6, 10)]
        self.assertEqual(play(*before, hit(4), hit(10), hit(1))[3:],
                         [[21, 4, -1, -1, 19], [-3], [-3]])
        self.assertEqual(play(*before, hit(10), hit(3), hit(1))[3:],
                         [[17, 2, 0, 0, 9], [20, 2, 0, 0, 9], [21, 4, -1, -1, 19]])

    def test_the_last_hand_beyond_ends_the_round(self):
        self.assertEqual(last(*ONE, hit(11)), [21, 4, -1, -1, 19])
        self.assertEqual(last(*ONE, hit(5), hit(6)), [22, 4, -1, -1, 19])
        # Nobody is left against whom the dealer would draw.
        self.assertEqual(last(begin(), stake(0, 10), deal(10, 2, 6, 3), hit(6)), [22, 4, -1, -1, 5])

    def test_each_edge_of_the_cards(self):
        self.assertEqual(last(*ONE, hit(1))[0], 12)
        self.assertEqual(last(*ONE, hit(13))[0], 21)

    def test_the_card_leaves_the_shoe(self):
        self.assertEqual(table_behind(*ONE, hit(5)).shoe.left, [4, 4, 4, 4, 2, 3, 4, 4, 3, 3, 4, 4, 4])

    def test_a_card_that_is_none(self):
        for card in (0, 14, -1, LOWEST, HIGHEST):
            self.refused(ONE, hit(card), -1)

    def test_only_while_hands_are_asked(self):
        for before in NOT_HANDS:
            self.refused(before, hit(5), -3)
            self.refused(before, hit(14), -1)

    def test_the_shoe_has_not_the_card(self):
        self.refused(ALL_FIVES, hit(5), -5)
        self.assertEqual(last(*ALL_FIVES, hit(6)), [16, 2, 0, 0, 9])
        self.assertEqual(last(begin(2, 2), *ALL_FIVES[1:], hit(5)), [15, 2, 0, 0, 9])

    def test_the_refusal_told_first(self):
        no_fives = ALL_FIVES + [STAND, STAND]
        self.refused(no_fives, hit(5), -3)
        self.refused(no_fives, hit(0), -1)
        self.refused(ALL_FIVES, hit(0), -1)


class Stand(TableTest):
    def test_answers_what_the_hand_counts_and_how_it_stands(self):
        self.assertEqual(play(*THREE, STAND, STAND, STAND)[5:],
                         [[11, 2, 1, 0, 9], [13, 2, 3, 0, 9], [15, 4, -1, -1, 19]])

    def test_the_hand_stands(self):
        self.assertEqual(states(*THREE, STAND), [[1], [0], [], [0]])
        self.assertEqual(states(*THREE, STAND, STAND), [[1], [1], [], [0]])

    def test_a_soft_hand_stands(self):
        self.assertEqual(last(begin(), stake(0, 1), deal(1, 9, 6, 10), STAND), [17, 4, -1, -1, 19])

    def test_the_dealer_draws_below_17(self):
        for first, second, points in ((2, 3, 5), (10, 2, 12), (10, 6, 16), (5, 1, 16)):
            before = [begin(), stake(0, 1), deal(10, first, 9, second)]
            self.assertEqual(last(*before, STAND), [19, 3, -1, -1, points])
        for first, second, points in ((10, 7, 17), (10, 8, 18), (10, 10, 20), (8, 1, 19)):
            before = [begin(), stake(0, 1), deal(10, first, 9, second)]
            self.assertEqual(last(*before, STAND), [19, 4, -1, -1, points])

    def test_the_dealer_draws_at_a_soft_17_where_the_rules_say_so(self):
        for soft, phase in ((0, 4), (1, 3)):
            before = [begin(soft=soft), stake(0, 1), deal(10, 6, 9, 1)]
            self.assertEqual(last(*before, STAND), [19, phase, -1, -1, 17])
            before = [begin(soft=soft), stake(0, 1), deal(10, 1, 9, 6), DONE]
            self.assertEqual(last(*before, STAND), [19, phase, -1, -1, 17])
            before = [begin(soft=soft), stake(0, 1), deal(10, 10, 9, 7)]
            self.assertEqual(last(*before, STAND), [19, 4, -1, -1, 17])
            before = [begin(soft=soft), stake(0, 1), deal(10, 7, 9, 1)]
            self.assertEqual(last(*before, STAND), [19, 4, -1, -1, 18])

    def test_the_dealer_draws_only_against_a_hand_that_stands_and_is_no_natural(self):
        before = [begin(3), stake(0, 1), stake(2, 1), deal(1, 10, 6, 10, 6, 6)]
        self.assertEqual(last(*before), [0, 2, 2, 0, 6])
        self.assertEqual(last(*before, hit(9)), [25, 4, -1, -1, 12])
        self.assertEqual(last(*before, hit(5)), [21, 3, -1, -1, 12])
        self.assertEqual(last(*before, STAND), [16, 3, -1, -1, 12])

    def test_only_while_hands_are_asked(self):
        for before in NOT_HANDS:
            self.refused(before, STAND, -3)


class Double(TableTest):
    def test_answers_what_the_hand_counts_and_how_it_stands(self):
        self.assertEqual(play(*THREE, double(9), double(1), double(10))[5:],
                         [[20, 2, 1, 0, 9], [14, 2, 3, 0, 9], [25, 4, -1, -1, 19]])

    def test_twice_the_stake_one_card_and_it_stands_or_is_beyond(self):
        self.assertEqual(hands_of(*THREE, double(9), double(8), double(7))[0],
                         [{"stake": 20, "cards": [5, 6, 9], "parted": False, "state": 1}])
        self.assertEqual(states(*THREE, double(9), double(8), double(7)), [[1], [1], [], [2]])
        self.assertEqual([hand["stake"] for seat in hands_of(*THREE, double(9), double(8), double(7))
                          for hand in seat], [20, 40, 80])
        self.assertEqual([seat.stake for seat in table_behind(*THREE, double(9)).seats], [10, 20, 0, 40])

    def test_21_and_22(self):
        before = [begin(), stake(0, 1), deal(6, 6, 6, 10)]
        self.assertEqual(last(*before, double(9)), [21, 3, -1, -1, 16])
        self.assertEqual(last(*before, double(10)), [22, 4, -1, -1, 16])
        self.assertEqual(states(*before, double(9)), [[1]])
        self.assertEqual(states(*before, double(10)), [[2]])

    def test_the_highest_stake_twice(self):
        self.assertEqual(hands_of(begin(), stake(0, 1000), deal(5, 9, 6, 10), double(2))[0][0]["stake"], 2000)

    def test_the_card_leaves_the_shoe(self):
        self.assertEqual(table_behind(*ONE, double(5)).shoe.left, [4, 4, 4, 4, 2, 3, 4, 4, 3, 3, 4, 4, 4])

    def test_a_card_that_is_none(self):
        for card in (0, 14, -1, LOWEST, HIGHEST):
            self.refused(ONE, double(card), -1)
        self.assertEqual(last(*ONE, double(1)), [12, 4, -1, -1, 19])
        self.assertEqual(last(*ONE, double(13)), [21, 4, -1, -1, 19])

    def test_only_while_hands_are_asked(self):
        for before in NOT_HANDS:
            self.refused(before, double(5), -3)
            self.refused(before, double(14), -1)

    def test_two_cards_alone(self):
        self.refused(ONE + [hit(2)], double(3), -4)
        self.refused(ONE + [hit(2), hit(2)], double(3), -4)

    def test_the_shoe_has_not_the_card(self):
        self.refused(ALL_FIVES, double(5), -5)
        self.assertEqual(last(begin(2, 2), *ALL_FIVES[1:], double(5)), [15, 2, 1, 0, 9])

    def test_the_refusal_told_first(self):
        three_cards = ALL_FIVES + [hit(2)]
        self.refused(three_cards, double(5), -4)
        self.refused(three_cards, double(14), -1)
        self.refused(ALL_FIVES, double(14), -1)
        self.refused(ALL_FIVES + [STAND, STAND], double(5), -3)
