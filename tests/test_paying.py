"""What is paid, seen through what each seat has won."""

import unittest

from cardtable.hand import BEYOND, GIVEN_UP, STANDS, Hand
from cardtable.paying import hand_pay, insurance_pay
from helpers import DONE, STAND, begin, deal, dealer, double, hit, insure, split, stake, table_behind, won


def standing_hand(cards, parted=False, state=STANDS, stake=10):
    hand = Hand(stake, cards, parted)
    hand.state = state
    return hand


class PaidByTheCalls(unittest.TestCase):
    def test_more_than_the_dealer_less_and_as_much(self):
        for second, halves in ((7, -20), (8, 0), (9, 20)):
            self.assertEqual(won(begin(), stake(0, 10), deal(10, 10, second, 8), STAND), [halves])

    def test_beyond_loses_the_stake(self):
        self.assertEqual(won(begin(), stake(0, 7), deal(10, 2, 6, 3), hit(6)), [-14])

    def test_beyond_loses_before_the_dealer_has_drawn(self):
        before = [begin(2), stake(0, 7), stake(1, 5), deal(10, 10, 10, 6, 6, 6), hit(6)]
        self.assertEqual(won(*before), [0, 0])
        self.assertEqual(won(*before, STAND), [0, 0])
        self.assertEqual(won(*before, hit(7)), [-14, -10])

    def test_a_natural(self):
        self.assertEqual(won(begin(), stake(0, 7), deal(1, 10, 13, 9)), [21])
        self.assertEqual(won(begin(), stake(0, 7), deal(1, 10, 13, 1)), [0])
        self.assertEqual(won(begin(), stake(0, 1), deal(12, 2, 1, 2)), [3])

    def test_a_natural_of_the_dealer_against_others(self):
        self.assertEqual(won(begin(3), stake(0, 7), stake(2, 9), deal(10, 1, 10, 10, 10, 1)), [-14, 0, 0])

    def test_21_on_more_cards_is_no_natural(self):
        self.assertEqual(won(begin(), stake(0, 10), deal(5, 10, 6, 9), hit(10)), [20])
        self.assertEqual(won(begin(), stake(0, 10), deal(5, 10, 6, 9), double(10)), [40])

    def test_a_natural_and_the_same_of_a_split(self):
        self.assertEqual(won(begin(), stake(0, 10), deal(1, 10, 10, 9)), [30])
        self.assertEqual(won(begin(hands=2), stake(0, 10), deal(10, 10, 10, 9), split(1, 1)), [20 + 20])
        self.assertEqual(won(begin(hands=2), stake(0, 10), deal(10, 10, 10, 6), split(1, 1), dealer(5)), [0])

    def test_a_doubled_stake(self):
        for card, halves in ((7, -40), (8, 0), (9, 40)):
            self.assertEqual(won(begin(), stake(0, 10), deal(5, 10, 6, 9), double(card)), [halves])
        self.assertEqual(won(begin(), stake(0, 1000), deal(10, 10, 6, 9), double(6)), [-4000])

    def test_insurance_is_on_the_stake_as_it_was(self):
        calls = [begin(), stake(0, 10), deal(5, 1, 6, 8), insure(0, 1), DONE, double(10)]
        self.assertEqual(won(*calls), [40 - 10])

    def test_nothing_is_paid_while_the_dealer_is_to_draw(self):
        self.assertEqual(won(begin(2), stake(0, 7), stake(1, 5), deal(1, 10, 10, 10, 6, 6), STAND), [0, 0])

    def test_a_seat_that_has_not_staked_wins_nothing(self):
        self.assertEqual(won(begin(4), stake(3, 10), deal(10, 10, 9, 8), STAND), [0, 0, 0, 20])

    def test_it_adds_up_over_rounds(self):
        calls = [begin(2, 8)]
        for units in (10, 20, 30):
            calls += [stake(0, units), stake(1, 1), deal(10, 10, 10, 9, 7, 8), STAND, STAND]
        self.assertEqual(won(*calls), [120, -6])
        # What is paid is paid once, and not again by calls that are refused.
        self.assertEqual(won(*calls, STAND, hit(5), double(5), DONE, deal(2, 3, 4, 5)), [120, -6])

    def test_a_new_table_has_won_nothing(self):
        self.assertEqual(won(begin(), stake(0, 10), deal(10, 10, 9, 8), STAND, begin(2)), [0, 0])
        self.assertEqual(won(begin(), stake(0, 10), deal(10, 10, 9, 8), STAND, begin(8)), [20])

    def test_each_hand_is_paid_by_its_own_end(self):
        calls = [begin(5, 8), stake(0, 1), stake(1, 2), stake(3, 4), stake(4, 8),
                 deal(1, 10, 10, 10, 9, 10, 9, 9, 5, 9), STAND, STAND, hit(7)]
        self.assertEqual(won(*calls), [3, 4, 0, 8, -16])
        self.assertEqual(table_behind(*calls).phase, 4)


class PaidByTheWords(unittest.TestCase):
    """Each row by itself, those too that meet in no round: a hand of a split, and a dealer's natural."""

    def test_given_up(self):
        self.assertEqual(hand_pay(standing_hand([10, 6], state=GIVEN_UP), [10, 9]), -10)
        self.assertEqual(hand_pay(standing_hand([10, 6], state=GIVEN_UP), [10, 6, 10]), -10)

    def test_beyond_even_if_the_dealer_is_too(self):
        self.assertEqual(hand_pay(standing_hand([10, 6, 6], state=BEYOND), [10, 6, 10]), -20)

    def test_a_natural_and_the_same_of_a_split(self):
        self.assertEqual(hand_pay(standing_hand([1, 10]), [10, 6, 5]), 30)
        self.assertEqual(hand_pay(standing_hand([1, 10]), [10, 1]), 0)
        self.assertEqual(hand_pay(standing_hand([1, 10], parted=True), [10, 6, 5]), 0)
        self.assertEqual(hand_pay(standing_hand([1, 10], parted=True), [10, 9]), 20)
        self.assertEqual(hand_pay(standing_hand([1, 10], parted=True), [10, 1]), -20)

    def test_against_what_the_dealer_counts(self):
        for dealer, halves in (([10, 9], 20), ([10, 10], 0), ([5, 6, 10], -20), ([5, 7, 10], 20), ([10, 1], -20)):
            self.assertEqual(hand_pay(standing_hand([10, 13]), dealer), halves)

    def test_21_on_three_cards_against_a_natural(self):
        self.assertEqual(hand_pay(standing_hand([7, 7, 7]), [1, 10]), -20)

    def test_insurance(self):
        self.assertEqual(insurance_pay(7, [1, 10]), 14)
        self.assertEqual(insurance_pay(7, [1, 9]), -7)
        self.assertEqual(insurance_pay(7, [1, 5, 5]), -7)
        self.assertEqual(insurance_pay(0, [1, 10]), 0)

    def test_a_hand_of_a_split_is_no_natural_for_the_dealer_either(self):
        self.assertTrue(standing_hand([1, 10], parted=True).awaits_dealer())
        self.assertFalse(standing_hand([1, 10]).awaits_dealer())
