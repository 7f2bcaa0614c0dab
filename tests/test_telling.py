"""now, seat and shoe: what they tell, and that they change nothing."""

from cardtable.reader import Reader
from cardtable.table import answer_call
from helpers import (
    DONE, GIVE, HIGHEST, LOWEST, NOW, PHASES, SHOE, STAND, TableTest, ask_seat, begin, deal, dealer, double, hit,
    insure, last, picture, play, shuffle, split, stake, table_behind,
)


class Now(TableTest):
    def test_ahead_of_the_first_begin(self):
        self.assertEqual(last(NOW), [0, 0, -1, -1, 0])

    def test_in_each_phase(self):
        told = {0: [0, 0, -1, -1, 0], 1: [1, 1, -1, -1, 11], 2: [2, 2, 0, 0, 6], 3: [3, 3, -1, -1, 16],
                4: [4, 4, -1, -1, 19]}
        for phase, before in PHASES.items():
            self.assertEqual(last(*before, NOW), told[phase])

    def test_it_tells_what_the_last_call_told(self):
        calls = PHASES[2] + [split(8, 3), split(2, 4), hit(1), STAND, double(10), dealer(13)]
        for number in range(2, len(calls)):
            answer = last(*calls[:number + 1])
            self.assertEqual(last(*calls[:number + 1], NOW), [answer[1]] + answer[1:])

    def test_whose_turn_it_is(self):
        before = [begin(3, 2, hands=3), stake(1, 10), stake(2, 10), deal(8, 5, 9, 8, 6, 10)]
        self.assertEqual(last(*before, NOW), [2, 2, 1, 0, 9])
        self.assertEqual(last(*before, split(3, 4), STAND, NOW), [2, 2, 1, 1, 9])
        self.assertEqual(last(*before, split(3, 4), STAND, STAND, NOW), [2, 2, 2, 0, 9])


class Seat(TableTest):
    def test_in_each_phase(self):
        told = {
            0: [10, 0, 0, 0],
            1: [10, 10, 0, 1, 0, 10, 16, 0, 2, 8, 8],
            2: [10, 0, 0, 1, 0, 10, 16, 0, 2, 8, 8],
            3: [10, 0, 0, 1, 1, 10, 16, 0, 2, 8, 8],
            4: [10, 0, -20, 1, 1, 10, 16, 0, 2, 8, 8],
        }
        for phase, before in PHASES.items():
            self.assertEqual(last(*before, ask_seat(0)), told[phase])

    def test_a_seat_that_has_not_staked(self):
        for before in PHASES.values():
            self.assertEqual(last(*before, ask_seat(1)), [0, 0, 0, 0])
            self.assertEqual(last(*before, ask_seat(2)), [0, 0, 0, 0])

    def test_no_such_seat(self):
        for phase in PHASES:
            for seat in (-1, 3, 7, LOWEST, HIGHEST):
                self.refused(PHASES[phase], ask_seat(seat), -1)
        self.assertEqual(last(begin(7), ask_seat(6)), [0, 0, 0, 0])
        self.refused([begin(7)], ask_seat(7), -1)
        for seat in (-1, 0, 6, LOWEST, HIGHEST):
            self.refused([], ask_seat(seat), -1)

    def test_behind_a_dealers_natural(self):
        ten = [begin(2), stake(0, 10), stake(1, 6), deal(10, 9, 13, 1, 8, 1)]
        self.assertEqual(play(*ten, ask_seat(0), ask_seat(1))[-2:],
                         [[10, 0, 0, 1, 1, 10, 21, 1, 2, 10, 1], [6, 0, -12, 1, 0, 6, 17, 0, 2, 9, 8]])
        ace = [begin(2), stake(0, 10), stake(1, 6), deal(10, 9, 1, 1, 8, 13), insure(1, 1)]
        self.assertEqual(play(*ace, ask_seat(0), ask_seat(1))[-2:],
                         [[10, 0, 0, 1, 0, 10, 21, 1, 2, 10, 1], [6, 6, 0, 1, 0, 6, 17, 0, 2, 9, 8]])
        self.assertEqual(play(*ace, DONE, ask_seat(0), ask_seat(1))[-2:],
                         [[10, 0, 0, 1, 1, 10, 21, 1, 2, 10, 1], [6, 6, 0, 1, 0, 6, 17, 0, 2, 9, 8]])

    def test_the_stake_that_is_insured(self):
        before = [begin(), stake(0, 9), deal(10, 1, 7, 8)]
        self.assertEqual(last(*before, ask_seat(0))[:3], [9, 0, 0])
        self.assertEqual(last(*before, insure(0, 1), ask_seat(0))[:3], [9, 9, 0])
        self.assertEqual(last(*before, insure(0, 1), insure(0, 0), ask_seat(0))[:3], [9, 0, 0])
        self.assertEqual(last(*before, insure(0, 1), DONE, ask_seat(0))[:3], [9, 9, 0])
        self.assertEqual(last(*before, insure(0, 1), DONE, STAND, ask_seat(0))[:3], [9, 9, -27])
        self.assertEqual(last(*before, insure(0, 1), DONE, STAND, stake(0, 2), ask_seat(0)), [2, 0, -27, 0])

    def test_behind_a_double(self):
        before = [begin(), stake(0, 10), deal(5, 1, 6, 8), insure(0, 1), DONE, double(10)]
        self.assertEqual(last(*before, ask_seat(0)), [10, 10, 30, 1, 1, 20, 21, 0, 3, 5, 6, 10])

    def test_behind_a_split_and_a_give(self):
        before = PHASES[2]
        self.assertEqual(last(*before, split(1, 2), ask_seat(0)),
                         [10, 0, 0, 2, 0, 10, 19, 1, 2, 8, 1, 0, 10, 10, 0, 2, 8, 2])
        self.assertEqual(last(*before, GIVE, ask_seat(0)), [10, 0, -10, 1, 3, 10, 16, 0, 2, 8, 8])

    def test_hands_beyond_and_hands_that_stand(self):
        self.assertEqual(last(*PHASES[2], hit(10), ask_seat(0)), [10, 0, -20, 1, 2, 10, 26, 0, 3, 8, 8, 10])
        self.assertEqual(last(*PHASES[2], hit(5), ask_seat(0)), [10, 0, 0, 1, 1, 10, 21, 0, 3, 8, 8, 5])

    def test_soft_and_hard(self):
        before = [begin(), stake(0, 1), deal(1, 9, 2, 10)]
        self.assertEqual(last(*before, ask_seat(0))[4:], [0, 1, 13, 1, 2, 1, 2])
        self.assertEqual(last(*before, hit(8), ask_seat(0))[4:], [1, 1, 21, 1, 3, 1, 2, 8])
        self.assertEqual(last(*before, hit(9), ask_seat(0))[4:], [0, 1, 12, 0, 3, 1, 2, 9])
        self.assertEqual(last(*before, hit(9), hit(1), ask_seat(0))[4:], [0, 1, 13, 0, 4, 1, 2, 9, 1])

    def test_the_cards_are_told_as_they_are(self):
        before = [begin(), stake(0, 1), deal(11, 9, 2, 10), hit(3), hit(2)]
        self.assertEqual(last(*before, ask_seat(0))[4:], [0, 1, 17, 0, 4, 11, 2, 3, 2])

    def test_what_is_won_in_all_over_rounds(self):
        calls = [begin(2, 8)]
        won = []
        for units in (10, 20, 35):
            calls += [stake(0, units), stake(1, 1), deal(10, 10, 10, 9, 7, 8), STAND, STAND]
            won.append([last(*calls, ask_seat(place))[2] for place in (0, 1)])
        self.assertEqual(won, [[20, -2], [60, -4], [130, -6]])
        self.assertEqual(last(*calls, stake(1, 2), ask_seat(0)), [0, 0, 130, 0])
        self.assertEqual(last(*calls, begin(2), ask_seat(0)), [0, 0, 0, 0])


class Shoe(TableTest):
    def test_ahead_of_the_first_begin(self):
        self.assertEqual(last(SHOE), [0] * 14)

    def test_in_each_phase(self):
        told = {
            0: [52] + [4] * 13,
            1: [48, 3, 4, 4, 4, 4, 4, 3, 2, 4, 4, 4, 4, 4],
            2: [48, 4, 4, 4, 4, 4, 3, 4, 2, 4, 3, 4, 4, 4],
            3: [48, 4, 4, 4, 4, 4, 3, 4, 2, 4, 3, 4, 4, 4],
            4: [48, 4, 4, 4, 4, 4, 4, 4, 2, 3, 3, 4, 4, 4],
        }
        for phase, before in PHASES.items():
            self.assertEqual(last(*before, SHOE), told[phase])

    def test_it_is_counted_down_by_each_call_with_cards(self):
        calls = [begin(decks=2, again=1, hands=2), stake(0, 10), deal(8, 6, 8, 10), split(3, 4), double(13), hit(1),
                 STAND, dealer(1)]
        self.assertEqual([last(*calls[:number], SHOE)[0] for number in range(1, 9)],
                         [104, 104, 100, 98, 97, 96, 96, 95])
        self.assertEqual(last(*calls, SHOE), [95, 6, 8, 7, 7, 8, 7, 8, 6, 8, 7, 8, 8, 7])
        self.assertEqual(last(*calls, stake(0, 10), SHOE)[0], 95)
        self.assertEqual(last(*calls, shuffle(1), SHOE), [52] + [4] * 13)

    def test_each_sort_has_its_place(self):
        for card in range(1, 14):
            shoe = last(*PHASES[2], hit(card), SHOE)
            expected = [47, 4, 4, 4, 4, 4, 3, 4, 2, 4, 3, 4, 4, 4]
            expected[card] -= 1
            self.assertEqual(shoe, expected)

    def test_an_empty_sort(self):
        self.assertEqual(last(begin(), stake(0, 1), deal(13, 13, 13, 13), SHOE), [48] + [4] * 12 + [0])


class NothingChanges(TableTest):
    def test_in_each_phase_and_ahead_of_the_first_begin(self):
        for before in [[]] + list(PHASES.values()):
            for call in (NOW, SHOE, ask_seat(0), ask_seat(1), ask_seat(9), ask_seat(-1)):
                table = table_behind(*before)
                was = picture(table)
                first = answer_call(table, Reader(call))
                self.assertEqual(picture(table), was)
                kept = list(first)
                first.append(7)
                first[0] = 99
                self.assertEqual(picture(table), was)
                self.assertEqual(answer_call(table, Reader(call)), kept)

    def test_between_all_calls_of_a_round(self):
        calls = PHASES[2] + [split(8, 3), split(2, 4), hit(10), hit(3), STAND, hit(10), dealer(13), stake(1, 3)]
        self.assertNotIn([-3], play(*calls))
        asked = []
        for call in calls:
            asked += [NOW, ask_seat(0), SHOE, call]
        self.assertEqual(play(*asked)[3::4], play(*calls))
