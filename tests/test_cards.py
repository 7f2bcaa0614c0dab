import unittest

from cardtable.cards import is_card, is_natural, is_soft, total
from cardtable.shoe import Shoe
from helpers import HIGHEST, LOWEST, last, begin, deal, hit, play, stake


class Cards(unittest.TestCase):
    def test_what_is_a_card(self):
        self.assertEqual([card for card in range(-2, 17) if is_card(card)], list(range(1, 14)))
        self.assertFalse(is_card(LOWEST))
        self.assertFalse(is_card(HIGHEST))

    def test_each_counts_its_number_and_10_at_the_most(self):
        self.assertEqual([total([card]) for card in range(2, 14)], [2, 3, 4, 5, 6, 7, 8, 9, 10, 10, 10, 10])
        self.assertEqual(total([]), 0)

    def test_an_ace_counts_11_only_up_to_21(self):
        counted = [
            ([1], 11, True), ([1, 1], 12, True), ([1, 10], 21, True), ([1, 13], 21, True), ([1, 9], 20, True),
            ([1, 5, 5], 21, True), ([1, 5, 6], 12, False), ([1, 10, 10], 21, False), ([1, 1, 9], 21, True),
            ([1, 1, 10], 12, False), ([10, 10], 20, False), ([1, 10, 11, 2], 23, False), ([1] * 11, 21, True),
            ([1] * 12, 12, False),
        ]
        for cards, points, soft in counted:
            self.assertEqual((total(cards), is_soft(cards)), (points, soft), cards)

    def test_a_natural_is_two_cards(self):
        for ten in (10, 11, 12, 13):
            self.assertTrue(is_natural([1, ten]))
            self.assertTrue(is_natural([ten, 1]))
        for cards in ([7, 7, 7], [1, 5, 5], [1, 10, 10], [1, 9], [1], [], [10, 10], [1, 1]):
            self.assertFalse(is_natural(cards), cards)

    def test_each_face_counts_10_at_the_table(self):
        for card in (10, 11, 12, 13):
            self.assertEqual(last(begin(), stake(0, 1), deal(card, 9, 5, 9), hit(2))[0], 17)

    def test_an_ace_that_counts_11_and_then_1(self):
        found = play(begin(decks=2), stake(0, 10), deal(1, 9, 1, 10), hit(1), hit(7), hit(9), hit(2))
        self.assertEqual([answer[0] for answer in found[3:]], [13, 20, 19, 21])


class TheShoe(unittest.TestCase):
    def test_holds_each_sort_as_often_as_it_is_left(self):
        shoe = Shoe(1)
        self.assertTrue(shoe.holds([1, 1, 1, 1, 13, 13, 13, 13]))
        self.assertFalse(shoe.holds([1, 1, 1, 1, 2, 1]))
        self.assertTrue(shoe.holds([]))
        self.assertFalse(Shoe(0).holds([5]))

    def test_each_card_leaves_it(self):
        shoe = Shoe(1)
        shoe.take([1, 13, 13, 7])
        self.assertEqual(shoe.left, [3, 4, 4, 4, 4, 4, 3, 4, 4, 4, 4, 4, 2])
        self.assertEqual(shoe.size(), 48)
        self.assertFalse(shoe.holds([13, 13, 13]))
