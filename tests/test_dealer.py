"""dealer: the cards the dealer draws, and what is paid then."""

from helpers import (
    DONE, GIVE, HIGHEST, LOWEST, NOW, PHASES, SHOE, STAND, TableTest, ask_seat, begin, deal, dealer, double, hit,
    insure, last, play, split, stake, table_behind, won,
)


def against(first, second, soft=0, decks=2):
    """The dealer is to draw against 19."""
    looked = [DONE] if first == 1 else []
    return [begin(decks=decks, soft=soft), stake(0, 10), deal(10, first, 9, second)] + looked + [STAND]


class Dealer(TableTest):
    def test_answers_what_the_dealer_counts_and_how_it_stands(self):
        self.assertEqual(last(*against(2, 3), dealer(10, 2)), [17, 4, -1, -1, 17])
        self.assertEqual(last(*against(2, 3), dealer(2, 3, 4, 7)), [21, 4, -1, -1, 21])
        self.assertEqual(last(*against(10, 6), dealer(1)), [17, 4, -1, -1, 17])

    def test_the_cards_come_behind_the_dealers_two(self):
        self.assertEqual(table_behind(*against(2, 3), dealer(10, 2)).dealer, [2, 3, 10, 2])

    def test_the_cards_leave_the_shoe(self):
        self.assertEqual(last(*against(2, 3, 0, 1), SHOE), [48, 4, 3, 3, 4, 4, 4, 4, 4, 3, 3, 4, 4, 4])
        self.assertEqual(last(*against(2, 3, 0, 1), dealer(10, 2), SHOE),
                         [46, 4, 2, 3, 4, 4, 4, 4, 4, 3, 2, 4, 4, 4])

    def test_each_end_from_17_on(self):
        for card, points, halves in ((1, 17, 20), (2, 18, 20), (3, 19, 0), (4, 20, -20), (5, 21, -20), (6, 22, 20),
                                     (10, 26, 20), (13, 26, 20)):
            self.assertEqual(last(*against(10, 6), dealer(card)), [points, 4, -1, -1, points])
            self.assertEqual(won(*against(10, 6), dealer(card)), [halves])

    def test_as_many_as_the_dealer_draws(self):
        aces = against(10, 2, 0, 8)
        self.assertEqual(last(*aces, dealer(1, 1, 1, 1, 1)), [17, 4, -1, -1, 17])
        self.refused(aces, dealer(1, 1, 1, 1), -4)
        self.refused(aces, dealer(1, 1, 1, 1, 1, 1), -4)

    def test_no_card(self):
        for before in (against(2, 3), against(10, 6), against(6, 1, 1)):
            self.refused(before, dealer(), -4)

    def test_too_few(self):
        self.refused(against(2, 3), dealer(10), -4)
        self.refused(against(2, 3), dealer(2, 3, 4), -4)

    def test_too_many(self):
        self.refused(against(2, 3), dealer(10, 2, 1), -4)
        self.refused(against(10, 6), dealer(5, 1), -4)
        self.refused(against(10, 6), dealer(10, 10), -4)
        self.refused(against(10, 6), dealer(*range(1, 11)), -4)
        # All behind the last but one would be well, were the dealer not done before.
        self.refused(against(10, 6), dealer(1, 1), -4)

    def test_lists_of_20(self):
        self.refused(against(2, 3, 0, 8), dealer(*[1] * 20), -4)
        self.refused(against(2, 3, 0, 8), dealer(*[13] * 20), -4)

    def test_nothing_is_left_to_draw_behind_it(self):
        done = against(2, 3) + [dealer(10, 2)]
        self.refused(done, dealer(), -3)
        self.refused(done, dealer(10, 2), -3)
        self.assertEqual(won(*done, dealer(10, 2), dealer()), [20])


class Soft17(TableTest):
    def test_with_the_rule_off_it_stands(self):
        self.assertEqual(last(*against(5, 1), dealer(1)), [17, 4, -1, -1, 17])
        self.refused(against(5, 1), dealer(1, 4), -4)
        self.assertEqual(last(*against(1, 5), dealer(1)), [17, 4, -1, -1, 17])

    def test_with_the_rule_on_it_draws(self):
        self.refused(against(5, 1, 1), dealer(1), -4)
        self.assertEqual(last(*against(5, 1, 1), dealer(1, 4)), [21, 4, -1, -1, 21])
        self.assertEqual(last(*against(6, 1, 1), dealer(4)), [21, 4, -1, -1, 21])
        self.assertEqual(last(*against(1, 6, 1), dealer(2)), [19, 4, -1, -1, 19])

    def test_a_hard_17_stands_in_both(self):
        for soft in (0, 1):
            self.assertEqual(last(*against(2, 5, soft), dealer(10)), [17, 4, -1, -1, 17])
            self.refused(against(2, 5, soft), dealer(10, 2), -4)
            # An ace that counts 1 makes no soft hand.
            self.assertEqual(last(*against(10, 6, soft), dealer(1)), [17, 4, -1, -1, 17])
            self.refused(against(10, 6, soft), dealer(1, 2), -4)

    def test_a_soft_18_stands_in_both(self):
        for soft in (0, 1):
            self.assertEqual(last(*against(5, 1, soft), dealer(2)), [18, 4, -1, -1, 18])
            self.refused(against(5, 1, soft), dealer(2, 2), -4)

    def test_softly_first_and_hard_later(self):
        self.refused(against(5, 1), dealer(10), -4)
        self.assertEqual(last(*against(5, 1), dealer(10, 5)), [21, 4, -1, -1, 21])
        self.assertEqual(last(*against(5, 1), dealer(10, 6)), [22, 4, -1, -1, 22])
        self.assertEqual(last(*against(6, 1, 1), dealer(10)), [17, 4, -1, -1, 17])
        self.refused(against(6, 1, 1), dealer(10, 2), -4)
        self.refused(against(6, 1, 1), dealer(9), -4)
        self.assertEqual(last(*against(6, 1, 1), dealer(9, 10)), [26, 4, -1, -1, 26])
        self.assertEqual(last(*against(2, 4, 1), dealer(1, 9, 13)), [26, 4, -1, -1, 26])

    def test_each_ace_may_be_the_one(self):
        self.assertEqual(last(*against(1, 1), dealer(1, 1, 3)), [17, 4, -1, -1, 17])
        self.assertEqual(last(*against(1, 1, 1), dealer(1, 1, 3, 10)), [17, 4, -1, -1, 17])


class WhatIsPaid(TableTest):
    # A natural, two hands of a split (21 doubled, and 18), one given up, one beyond; the dealer has 16.
    ALL = [
        begin(5, 2, 0, 1, 1, 4), stake(0, 10), stake(1, 20), stake(2, 30), stake(4, 40),
        deal(1, 8, 10, 10, 6, 13, 8, 6, 5, 10), split(3, 13), double(10), STAND, GIVE, hit(10),
    ]

    def test_to_each_hand_of_each_seat(self):
        self.assertEqual(play(*self.ALL)[6:], [
            [2, 2, 1, 0, 6], [21, 2, 1, 1, 6], [18, 2, 2, 0, 6], [0, 2, 4, 0, 6], [25, 3, -1, -1, 16],
        ])
        self.assertEqual(won(*self.ALL), [0, 0, 0, 0, 0])
        self.assertEqual(won(*self.ALL, dealer(1)), [30, 80 + 40, -30, 0, -80])
        self.assertEqual(won(*self.ALL, dealer(2)), [30, 80, -30, 0, -80])
        self.assertEqual(won(*self.ALL, dealer(3)), [30, 80 - 40, -30, 0, -80])
        self.assertEqual(won(*self.ALL, dealer(5)), [30, -40, -30, 0, -80])
        self.assertEqual(won(*self.ALL, dealer(6)), [30, 80 + 40, -30, 0, -80])

    def test_what_each_seat_tells_behind_it(self):
        found = play(*self.ALL, dealer(3), *[ask_seat(place) for place in range(5)])[-5:]
        self.assertEqual(found, [
            [10, 0, 30, 1, 1, 10, 21, 1, 2, 1, 13],
            [20, 0, 40, 2, 1, 40, 21, 0, 3, 8, 3, 10, 1, 20, 18, 0, 2, 8, 13],
            [30, 0, -30, 1, 3, 30, 16, 0, 2, 10, 6],
            [0, 0, 0, 0],
            [40, 0, -80, 1, 2, 40, 25, 0, 3, 10, 5, 10],
        ])

    def test_21_on_three_cards_of_the_dealer_is_no_natural(self):
        before = [begin(2), stake(0, 10), stake(1, 10), deal(1, 10, 10, 13, 10, 6), STAND]
        self.assertEqual(won(*before, dealer(5)), [30, -20])

    def test_insurance_is_lost_then(self):
        before = [begin(), stake(0, 10), deal(10, 1, 9, 4), insure(0, 1), DONE, STAND]
        self.assertEqual(won(*before), [0])
        self.assertEqual(won(*before, dealer(2)), [20 - 10])
        self.assertEqual(won(*before, dealer(6)), [-20 - 10])
        # 21 on more than two cards pays no insurance.
        self.assertEqual(won(*before, dealer(10, 6)), [-20 - 10])

    def test_a_new_round_behind_it(self):
        before = against(2, 3) + [dealer(10, 2)]
        self.assertEqual(last(*before, stake(0, 5), NOW), [0, 0, -1, -1, 0])
        self.assertEqual(last(*before, stake(0, 5), deal(10, 9, 7, 10), STAND), [17, 4, -1, -1, 19])
        self.assertEqual(won(*before, stake(0, 5), deal(10, 9, 7, 10), STAND), [20 - 10])


class Refused(TableTest):
    # Of one deck one five is left, the dealer has 10.
    FIVES = [begin(), stake(0, 10), deal(10, 5, 5, 5), STAND]

    def test_a_card_that_is_none(self):
        for card in (0, 14, -1, LOWEST, HIGHEST):
            self.refused(against(2, 3), dealer(card), -1)
            self.refused(against(2, 3), dealer(10, card), -1)
            self.refused(against(2, 3), dealer(card, 10, 2), -1)

    def test_only_while_the_dealer_is_to_draw(self):
        for phase in (0, 1, 2, 4):
            self.refused(PHASES[phase], dealer(), -3)
            self.refused(PHASES[phase], dealer(10), -3)
            self.refused(PHASES[phase], dealer(*[2] * 20), -3)
            self.refused(PHASES[phase], dealer(10, 14), -1)
        self.refused([begin()], dealer(), -3)

    def test_the_shoe_has_not_these(self):
        self.refused(self.FIVES, dealer(5, 5), -5)
        self.assertEqual(last(*self.FIVES, dealer(5, 3)), [18, 4, -1, -1, 18])
        self.assertEqual(last(*self.FIVES, dealer(3, 5)), [18, 4, -1, -1, 18])
        none = [begin(2), stake(0, 10), stake(1, 1), deal(10, 5, 5, 5, 10, 5), STAND, STAND]
        self.refused(none, dealer(5, 2), -5)
        self.refused(none, dealer(2, 5), -5)
        self.assertEqual(last(*none, dealer(7)), [17, 4, -1, -1, 17])

    def test_the_refusal_told_first(self):
        self.refused(self.FIVES, dealer(5), -4)
        self.refused(self.FIVES, dealer(5, 5, 5), -4)
        self.refused(self.FIVES, dealer(5, 5, 14), -1)
        self.refused(self.FIVES, dealer(5, 0), -1)
        self.refused(self.FIVES, dealer(14), -1)
        self.refused(self.FIVES + [dealer(5, 3)], dealer(5, 5), -3)
        self.refused(self.FIVES[:3], dealer(5, 5), -3)
