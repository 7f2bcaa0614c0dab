"""give: where a hand may be given up, and what becomes of the round."""

from helpers import (
    DONE, GIVE, NOT_HANDS, NOW, SHOE, STAND, TableTest, ask_seat, begin, deal, dealer, double, hit, insure, last, play,
    split, stake, states, won,
)

TWO = [begin(2, giving=1), stake(0, 10), stake(1, 6), deal(10, 10, 9, 6, 7, 10)]
# The dealer has 12 and would draw against a hand that stands.
DRAWING = [begin(3, 2, giving=1), stake(0, 10), stake(2, 6), deal(10, 10, 10, 6, 7, 2)]
INSURABLE = [begin(giving=1), stake(0, 10), deal(10, 1, 6, 7)]


class Give(TableTest):
    def test_answers_0_and_how_it_stands(self):
        self.assertEqual(play(*TWO, GIVE, GIVE)[-2:], [[0, 2, 1, 0, 9], [0, 4, -1, -1, 19]])

    def test_the_hand_is_given_up(self):
        self.assertEqual(last(*TWO, GIVE, ask_seat(0)), [10, 0, 0, 1, 3, 10, 16, 0, 2, 10, 6])
        self.assertEqual(states(*TWO, GIVE), [[3], [0]])
        self.assertEqual(states(*TWO, STAND, GIVE), [[1], [3]])

    def test_no_card_leaves_the_shoe(self):
        self.assertEqual(last(*TWO, GIVE, SHOE), last(*TWO, SHOE))

    def test_a_soft_hand_and_a_pair(self):
        for first, second in ((1, 6), (8, 8), (1, 1)):
            self.assertEqual(last(begin(giving=1), stake(0, 1), deal(first, 9, second, 10), GIVE),
                             [0, 4, -1, -1, 19])

    def test_half_of_the_stake_is_lost(self):
        self.assertEqual(won(*TWO, GIVE, GIVE), [-10, -6])
        self.assertEqual(won(*TWO, GIVE, STAND), [-10, -12])
        self.assertEqual(won(*TWO, STAND, GIVE), [-20, -6])
        self.assertEqual(won(begin(giving=1), stake(0, 7), deal(10, 9, 6, 10), GIVE), [-7])

    def test_nothing_is_paid_before_all_is(self):
        self.assertEqual(won(*TWO, GIVE), [0, 0])
        self.assertEqual(won(*DRAWING, GIVE, STAND), [0, 0, 0])

    def test_insured_and_not(self):
        self.assertEqual(won(*INSURABLE, DONE, GIVE), [-10])
        self.assertEqual(won(*INSURABLE, insure(0, 1), DONE, GIVE), [-20])
        self.assertEqual(last(*INSURABLE, insure(0, 1), DONE, GIVE, ask_seat(0)),
                         [10, 10, -20, 1, 3, 10, 16, 0, 2, 10, 6])

    def test_the_last_hand_given_up_while_others_stand(self):
        calls = DRAWING + [STAND, GIVE]
        self.assertEqual(last(*calls), [0, 3, -1, -1, 12])
        self.assertEqual(won(*calls, dealer(5)), [-20, 0, -6])
        self.assertEqual(won(*calls, dealer(10)), [20, 0, -6])

    def test_the_first_hand_given_up_while_others_stand(self):
        calls = DRAWING + [GIVE, STAND]
        self.assertEqual(last(*calls), [17, 3, -1, -1, 12])
        self.assertEqual(won(*calls, dealer(5)), [-10, 0, 0])
        self.assertEqual(won(*calls, dealer(10)), [-10, 0, 12])

    def test_all_hands_given_up_leave_the_dealer_nothing_to_draw(self):
        calls = DRAWING + [GIVE, GIVE]
        self.assertEqual(last(*calls), [0, 4, -1, -1, 12])
        self.assertEqual(won(*calls), [-10, 0, -6])
        self.refused(calls, dealer(5), -3)

    def test_given_up_and_beyond_leave_nothing_to_draw_either(self):
        self.assertEqual(last(*DRAWING, GIVE, hit(5)), [22, 4, -1, -1, 12])
        self.assertEqual(last(*DRAWING, hit(10), GIVE), [0, 4, -1, -1, 12])
        self.assertEqual(won(*DRAWING, hit(10), GIVE), [-20, 0, -6])

    def test_given_up_beside_a_natural(self):
        calls = [begin(2, giving=1), stake(0, 10), stake(1, 10), deal(1, 10, 10, 13, 6, 2), GIVE]
        self.assertEqual(last(*calls), [0, 4, -1, -1, 12])
        self.assertEqual(won(*calls), [30, -10])

    def test_a_new_round_behind_it(self):
        calls = TWO + [GIVE, GIVE, stake(0, 4)]
        self.assertEqual(last(*calls, NOW), [0, 0, -1, -1, 0])
        self.assertEqual(play(*calls, ask_seat(0), ask_seat(1))[-2:], [[4, 0, -10, 0], [0, 0, -6, 0]])
        self.assertEqual(won(*calls, deal(5, 9, 6, 8), double(8)), [-10 + 16, -6])


class Refused(TableTest):
    def test_only_while_hands_are_asked(self):
        for before in NOT_HANDS:
            self.refused(before, GIVE, -3)

    def test_only_where_the_rules_let(self):
        self.refused([begin(2, giving=0)] + TWO[1:], GIVE, -4)
        self.refused([begin(2, soft=1, again=1, giving=0, hands=4)] + TWO[1:], GIVE, -4)
        self.refused([begin(2, giving=0)] + TWO[1:] + [hit(2)], GIVE, -4)

    def test_two_cards_alone(self):
        self.refused(TWO + [hit(2)], GIVE, -4)
        self.refused(TWO + [hit(2), hit(1)], GIVE, -4)
        self.assertEqual(last(*TWO, hit(2), STAND, GIVE), [0, 4, -1, -1, 19])

    def test_a_hand_of_a_split(self):
        before = [begin(2, 2, giving=1, hands=3), stake(0, 10), stake(1, 10), deal(8, 8, 9, 8, 8, 10), split(8, 3)]
        self.refused(before, GIVE, -4)
        self.refused(before + [split(2, 3)], GIVE, -4)
        self.refused(before + [STAND], GIVE, -4)
        self.assertEqual(last(*before, STAND, STAND, GIVE), [0, 4, -1, -1, 19])

    def test_the_refusal_told_first(self):
        for before in NOT_HANDS[:3]:
            self.refused(before, GIVE, -3)
        no_giving = [begin(giving=0), stake(0, 10), deal(10, 2, 9, 3), STAND]
        self.refused(no_giving, GIVE, -3)
