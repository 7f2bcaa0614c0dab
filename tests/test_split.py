"""split: which hands may be, what becomes of them, and how its hands go on."""

from helpers import (
    DONE, GIVE, HIGHEST, LOWEST, NOT_HANDS, NOW, SHOE, STAND, TableTest, ask_seat, begin, deal, dealer, double, hit,
    insure, last, play, split, stake, states, table_behind, won,
)

EIGHTS = [begin(hands=4, decks=2), stake(0, 10), deal(8, 9, 8, 10)]
# Two eights of seat 1 between two other seats.
BETWEEN = [begin(4, 2, 0, 1, 0, 4), stake(0, 5), stake(1, 10), stake(3, 20), deal(10, 8, 5, 9, 7, 8, 6, 10)]


def pair(first, second, hands=2):
    return [begin(hands=hands), stake(0, 10), deal(first, 9, second, 10)]


def hands_at(place, *calls):
    return [hand.cards for hand in table_behind(*calls).seats[place].hands]


class WhatIsSplit(TableTest):
    def test_answers_2_and_how_it_stands(self):
        self.assertEqual(last(*EIGHTS, split(3, 4)), [2, 2, 0, 0, 9])
        self.assertEqual(last(*BETWEEN, STAND, split(3, 4)), [2, 2, 1, 0, 9])

    def test_two_hands_of_the_same_stake_with_a_new_card_each(self):
        self.assertEqual(last(*EIGHTS, split(3, 4), ask_seat(0)),
                         [10, 0, 0, 2, 0, 10, 11, 0, 2, 8, 3, 0, 10, 12, 0, 2, 8, 4])

    def test_the_stake_as_it_was_staked_stays(self):
        table = table_behind(*BETWEEN, STAND, split(3, 4))
        self.assertEqual([seat.stake for seat in table.seats], [5, 10, 0, 20])
        self.assertEqual(states(*BETWEEN, STAND, split(3, 4)), [[1], [0, 0], [], [0]])

    def test_the_cards_leave_the_shoe(self):
        before = [begin(hands=2), stake(0, 10), deal(8, 9, 8, 10)]
        self.assertEqual(last(*before, split(3, 13), SHOE), [46, 4, 4, 3, 4, 4, 4, 4, 2, 3, 3, 4, 4, 3])
        self.assertEqual(last(*before, split(8, 8), SHOE), [46, 4, 4, 4, 4, 4, 4, 4, 0, 3, 3, 4, 4, 4])

    def test_each_sort_alike(self):
        for card in range(2, 14):
            before = [begin(decks=2, hands=2), stake(0, 10), deal(card, 9, card, 10)]
            self.assertEqual(last(*before, split(2, 3)), [2, 2, 0, 0, 9])
            self.assertEqual(hands_at(0, *before, split(2, 3)), [[card, 2], [card, 3]])

    def test_cards_that_count_alike_but_are_of_two_sorts(self):
        for first in (10, 11, 12, 13):
            for second in (10, 11, 12, 13):
                calls = pair(first, second) + [split(2, 3)]
                self.assertEqual(last(*calls), [2, 2, 0, 0, 9])
                self.assertEqual(hands_at(0, *calls), [[first, 2], [second, 3]])

    def test_cards_that_do_not_count_alike(self):
        for first, second in ((9, 10), (10, 9), (1, 9), (2, 1), (5, 6), (13, 2), (9, 12)):
            self.refused(pair(first, second), split(2, 3), -4)

    def test_three_cards(self):
        self.refused(pair(8, 8) + [hit(2)], split(2, 3), -4)
        self.refused(pair(3, 3) + [hit(3)], split(2, 3), -4)
        self.refused(pair(2, 3) + [hit(3)], split(2, 3), -4)

    def test_as_many_hands_as_the_rules_let(self):
        for hands in range(1, 5):
            before = [begin(decks=2, hands=hands), stake(0, 10), deal(8, 9, 8, 10)]
            before += [split(8, 8)] * (hands - 1)
            self.assertEqual(hands_at(0, *before), [[8, 8]] * hands)
            self.assertEqual(last(*before, NOW), [2, 2, 0, 0, 9])
            self.refused(before, split(2, 3), -4)

    def test_each_seat_has_hands_of_its_own(self):
        before = [begin(2, 2, hands=2), stake(0, 1), stake(1, 1), deal(8, 8, 9, 8, 8, 10), split(2, 3), STAND, STAND]
        self.assertEqual(last(*before, split(4, 5)), [2, 2, 1, 0, 9])
        self.refused(before + [split(8, 8)], split(4, 5), -4)

    def test_each_edge_of_the_cards(self):
        self.assertEqual(hands_at(0, *EIGHTS, split(1, 13)), [[8, 1], [8, 13]])
        self.assertEqual(hands_at(0, *EIGHTS, split(13, 1)), [[8, 13], [8, 1]])


class HandsOfASplit(TableTest):
    def test_they_are_asked_one_after_another(self):
        self.assertEqual(play(*BETWEEN, STAND, split(3, 4), hit(5), STAND, hit(3), hit(9), STAND)[5:], [
            [17, 2, 1, 0, 9], [2, 2, 1, 0, 9], [16, 2, 1, 0, 9], [16, 2, 1, 1, 9], [15, 2, 1, 1, 9], [24, 2, 3, 0, 9],
            [11, 4, -1, -1, 19],
        ])
        self.assertEqual(won(*BETWEEN, STAND, split(3, 4), hit(5), STAND, hit(3), hit(9), STAND), [-10, -40, 0, -40])

    def test_split_again_they_stand_in_its_place(self):
        first = EIGHTS + [split(8, 5), split(3, 4)]
        self.assertEqual(hands_at(0, *first), [[8, 3], [8, 4], [8, 5]])
        self.assertEqual(last(*first), [2, 2, 0, 0, 9])
        second = EIGHTS + [split(5, 8), STAND, split(3, 4)]
        self.assertEqual(hands_at(0, *second), [[8, 5], [8, 3], [8, 4]])
        self.assertEqual(last(*second), [2, 2, 0, 1, 9])
        self.assertEqual(states(*second), [[1, 0, 0]])
        middle = EIGHTS + [split(8, 5), split(2, 8), STAND, split(3, 4)]
        self.assertEqual(hands_at(0, *middle), [[8, 2], [8, 3], [8, 4], [8, 5]])
        self.assertEqual(last(*middle), [2, 2, 0, 1, 9])
        self.assertEqual(play(*middle, STAND, STAND, STAND)[-3:],
                         [[11, 2, 0, 2, 9], [12, 2, 0, 3, 9], [13, 4, -1, -1, 19]])

    def test_tens_of_two_sorts_are_split_again(self):
        calls = pair(10, 13, 3) + [split(12, 11), split(2, 3)]
        self.assertEqual(hands_at(0, *calls), [[10, 2], [12, 3], [13, 11]])

    def test_one_that_counts_21_stands_of_itself(self):
        first = EIGHTS[:2] + [deal(10, 9, 13, 10), split(1, 5)]
        self.assertEqual(last(*first), [2, 2, 0, 1, 9])
        self.assertEqual(states(*first), [[1, 0]])
        second = EIGHTS[:2] + [deal(10, 9, 13, 10), split(5, 1)]
        self.assertEqual(last(*second), [2, 2, 0, 0, 9])
        self.assertEqual(last(*second, STAND), [15, 4, -1, -1, 19])
        both = EIGHTS[:2] + [deal(10, 9, 13, 10), split(1, 1)]
        self.assertEqual(last(*both), [2, 4, -1, -1, 19])
        self.assertEqual(last(*both, ask_seat(0)), [10, 0, 40, 2, 1, 10, 21, 1, 2, 10, 1, 1, 10, 21, 1, 2, 13, 1])

    def test_one_is_hit_to_21_and_beyond(self):
        calls = EIGHTS + [split(3, 4), hit(10), hit(10)]
        self.assertEqual(play(*calls)[-2:], [[21, 2, 0, 1, 9], [22, 4, -1, -1, 19]])
        self.assertEqual(last(*calls, ask_seat(0)), [10, 0, 0, 2, 1, 10, 21, 0, 3, 8, 3, 10, 2, 10, 22, 0, 3, 8, 4, 10])

    def test_21_on_two_cards_is_no_natural_for_the_dealers_draw(self):
        natural = [begin(hands=2), stake(0, 10), deal(10, 10, 1, 6)]
        self.assertEqual(last(*natural), [0, 4, -1, -1, 16])
        calls = [begin(hands=2), stake(0, 10), deal(10, 10, 11, 6), split(1, 1)]
        self.assertEqual(last(*calls), [2, 3, -1, -1, 16])
        self.assertEqual(last(*calls, dealer(4)), [20, 4, -1, -1, 20])

    def test_21_on_two_cards_is_no_natural_when_all_is_paid(self):
        calls = [begin(hands=2), stake(0, 10), deal(10, 10, 11, 6), split(1, 1)]
        self.assertEqual(won(*calls, dealer(4)), [40])
        self.assertEqual(won(*calls, dealer(5)), [0])
        self.assertEqual(won(*calls, dealer(13)), [40])
        self.assertEqual(won(begin(hands=2), stake(0, 10), deal(10, 9, 11, 9), split(1, 8)), [0])
        self.assertEqual(won(begin(hands=2), stake(0, 10), deal(10, 9, 11, 9), split(1, 8), STAND), [20])

    def test_one_may_be_doubled_where_the_rules_let(self):
        before = [begin(again=1, hands=2), stake(0, 10), deal(8, 9, 8, 10), split(3, 4)]
        self.assertEqual(play(*before, double(7), double(9))[-2:], [[18, 2, 0, 1, 9], [21, 4, -1, -1, 19]])
        self.assertEqual(last(*before, double(7), double(9), ask_seat(0)),
                         [10, 0, 0, 2, 1, 20, 18, 0, 3, 8, 3, 7, 1, 20, 21, 0, 3, 8, 4, 9])
        self.refused(before + [hit(2)], double(7), -4)
        self.refused(before + [hit(2), STAND, hit(2)], double(7), -4)

    def test_one_may_not_be_doubled_elsewhere(self):
        before = [begin(again=0, hands=2), stake(0, 10), deal(8, 9, 8, 10)]
        self.assertEqual(last(*before, double(2)), [18, 4, -1, -1, 19])
        self.refused(before + [split(3, 4)], double(7), -4)
        self.refused(before + [split(3, 4), STAND], double(7), -4)
        self.refused(before + [split(3, 4)], double(14), -1)
        # The hands of other seats are none of a split.
        self.assertEqual(last(*BETWEEN, STAND, split(3, 4), STAND, STAND, double(10)), [21, 4, -1, -1, 19])

    def test_one_may_not_be_given_up(self):
        before = [begin(giving=1, hands=2), stake(0, 10), deal(8, 9, 8, 10), split(3, 4)]
        self.refused(before, GIVE, -4)
        self.refused(before + [STAND], GIVE, -4)

    def test_each_is_paid_by_its_own_end(self):
        before = [begin(decks=2, again=1, hands=4), stake(0, 7), deal(8, 9, 8, 10), split(8, 10), split(3, 11)]
        self.assertEqual(won(*before, double(10), STAND, STAND), [28 - 14 - 14])
        self.assertEqual(won(*before, hit(8), STAND, hit(4), STAND), [0 - 14 - 14])
        self.assertEqual(won(*before, hit(10), hit(2), hit(1), hit(3)), [14 + 14 + 14])

    def test_nothing_is_paid_while_one_is_in_play(self):
        calls = EIGHTS + [split(3, 4), hit(10)]
        self.assertEqual(won(*calls), [0])
        self.assertEqual(won(*calls, STAND), [20 - 20])

    def test_insurance_is_on_the_stake_alone(self):
        before = [begin(hands=2), stake(0, 10), deal(8, 1, 8, 7), insure(0, 1), DONE, split(3, 13)]
        self.assertEqual(last(*before), [2, 2, 0, 0, 11])
        self.assertEqual(last(*before, ask_seat(0))[:4], [10, 10, 0, 2])
        self.assertEqual(won(*before, hit(8), STAND, STAND), [20 + 0 - 10])

    def test_a_new_round_knows_nothing_of_it(self):
        calls = [begin(1, 2, giving=1, hands=2), stake(0, 10), deal(8, 9, 8, 10), split(3, 4), STAND, STAND,
                 stake(0, 5)]
        self.assertEqual(last(*calls, ask_seat(0)), [5, 0, -40, 0])
        self.assertEqual(last(*calls, deal(8, 9, 8, 10), split(5, 6)), [2, 2, 0, 0, 9])
        self.assertEqual(last(*calls, deal(8, 9, 8, 10), GIVE), [0, 4, -1, -1, 19])
        self.assertEqual(won(*calls, deal(1, 9, 13, 10)), [-40 + 15])


class Aces(TableTest):
    ACES = [begin(2, 2, 0, 1, 1, 4), stake(0, 10), stake(1, 10), deal(1, 10, 10, 1, 9, 6)]

    def test_each_stands_with_its_new_card(self):
        for first in range(1, 14):
            for second in (1, 2, 9, 10, 13):
                calls = self.ACES + [split(first, second)]
                self.assertEqual(last(*calls), [2, 2, 1, 0, 10])
                self.assertEqual(states(*calls), [[1, 1], [0]])
                self.assertEqual(hands_at(0, *calls), [[1, first], [1, second]])

    def test_what_they_count(self):
        self.assertEqual(last(*self.ACES, split(9, 13), ask_seat(0)),
                         [10, 0, 0, 2, 1, 10, 20, 1, 2, 1, 9, 1, 10, 21, 1, 2, 1, 13])
        self.assertEqual(last(*self.ACES, split(1, 2), ask_seat(0)),
                         [10, 0, 0, 2, 1, 10, 12, 1, 2, 1, 1, 1, 10, 13, 1, 2, 1, 2])

    def test_the_last_hand_of_all(self):
        before = [begin(decks=2, hands=4), stake(0, 10)]
        self.assertEqual(last(*before, deal(1, 9, 1, 10), split(2, 3)), [2, 4, -1, -1, 19])
        self.assertEqual(last(*before, deal(1, 9, 1, 3), split(2, 3)), [2, 3, -1, -1, 12])
        self.assertEqual(won(*before, deal(1, 9, 1, 10), split(2, 9)), [-20 + 20])

    def test_21_among_them_is_no_natural(self):
        before = [begin(hands=2), stake(0, 10), deal(1, 10, 1, 6), split(10, 13)]
        self.assertEqual(last(*before), [2, 3, -1, -1, 16])
        self.assertEqual(won(*before, dealer(2)), [40])
        self.assertEqual(won(*before, dealer(5)), [0])

    def test_they_are_asked_nothing_more(self):
        before = [begin(decks=2, again=1, giving=1, hands=4), stake(0, 10), deal(1, 10, 1, 6), split(1, 1)]
        for call in (split(2, 3), hit(2), double(2), STAND, GIVE):
            self.refused(before, call, -3)

    def test_refused_where_the_rules_let_one_hand_alone(self):
        self.refused([begin(hands=1), stake(0, 10), deal(1, 10, 1, 6)], split(2, 3), -4)


class Refused(TableTest):
    # Of one deck one eight is left here, and none there.
    ONE_LEFT = [begin(hands=4), stake(0, 10), deal(8, 8, 8, 10)]
    NONE_LEFT = [begin(2, hands=4), stake(0, 10), stake(1, 10), deal(8, 8, 8, 8, 5, 10)]

    def test_a_card_that_is_none(self):
        for card in (0, 14, -1, LOWEST, HIGHEST):
            self.refused(EIGHTS, split(card, 2), -1)
            self.refused(EIGHTS, split(2, card), -1)
            self.refused(EIGHTS, split(card, card), -1)

    def test_only_while_hands_are_asked(self):
        for before in NOT_HANDS:
            self.refused(before, split(2, 3), -3)
            self.refused(before, split(14, 3), -1)
            self.refused(before, split(2, 0), -1)

    def test_the_shoe_has_not_the_cards(self):
        self.refused(self.NONE_LEFT, split(8, 2), -5)
        self.refused(self.NONE_LEFT, split(2, 8), -5)
        self.refused(self.NONE_LEFT, split(8, 8), -5)
        self.assertEqual(last(*self.NONE_LEFT, split(2, 3)), [2, 2, 0, 0, 8])

    def test_the_same_sort_once_where_both_ask_it(self):
        self.refused(self.ONE_LEFT, split(8, 8), -5)
        self.assertEqual(last(*self.ONE_LEFT, split(8, 2)), [2, 2, 0, 0, 8])
        self.assertEqual(last(*self.ONE_LEFT, split(2, 8)), [2, 2, 0, 0, 8])
        self.refused(self.ONE_LEFT + [split(2, 8), STAND], split(8, 2), -5)

    def test_the_refusal_told_first(self):
        not_alike = [begin(2, hands=4), stake(0, 10), stake(1, 10), deal(8, 5, 8, 9, 8, 8)]
        self.refused(not_alike, split(8, 2), -4)
        self.refused(not_alike, split(8, 14), -1)
        self.refused(self.NONE_LEFT, split(8, 14), -1)
        self.refused(self.NONE_LEFT, split(0, 8), -1)
        self.refused(self.NONE_LEFT + [hit(2)], split(8, 8), -4)
        self.refused(self.NONE_LEFT + [STAND, STAND], split(8, 8), -3)
        one_hand = [begin(2, hands=1)] + self.NONE_LEFT[1:]
        self.refused(one_hand, split(8, 2), -4)
        self.refused(one_hand, split(8, 0), -1)
