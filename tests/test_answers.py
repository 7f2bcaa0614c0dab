"""How calls are handed in and how answers are given back."""

import unittest

from cardtable.table import answers
from helpers import (
    DONE, GIVE, HIGHEST, LOWEST, NOW, PHASES, SHOE, STAND, ask_seat, begin, deal, dealer, double, flat, hit, insure,
    play, shuffle, split, stake,
)

CALLS = flat([
    begin(2), stake(0, 10), deal(5, 1, 6, 8), insure(0, 1), insure(1, 1), DONE, hit(2), STAND, double(3), deal(5),
    stake(1, 1001), deal(), stake(1, 4), deal(10, 9, 9, 9), double(2), deal(*[3] * 20), STAND,
])

# Each of the calls of a round that the ones above leave out.
LATER_CALLS = flat([
    shuffle(1), NOW, begin(2, 1, 1, 1, 1, 2), stake(0, 10), stake(1, 3), deal(8, 10, 6, 8, 6, 10), SHOE, split(3, 4),
    double(10), GIVE, STAND, GIVE, ask_seat(0), dealer(), dealer(2), ask_seat(1), shuffle(2), NOW,
])


class Answers(unittest.TestCase):
    def test_each_answer_stands_behind_its_count(self):
        self.assertEqual(answers(CALLS), [
            1, 52, 1, 10, 5, 0, 1, -1, -1, 11, 1, 1, 1, -4, 5, 0, 2, 0, 0, 11,
            5, 13, 2, 0, 0, 11, 5, 13, 4, -1, -1, 19, 1, -3, 1, -3,
            1, -1, 1, -3, 1, 4, 5, 0, 2, 1, 0, 9, 5, 21, 4, -1, -1, 18, 1, -3, 1, -3,
        ])

    def test_each_later_answer_stands_behind_its_count(self):
        self.assertEqual(answers(LATER_CALLS), [
            1, -2, 5, 0, 0, -1, -1, 0, 1, 52, 1, 10, 1, 3, 5, 0, 2, 0, 0, 6,
            14, 46, 4, 4, 4, 4, 4, 2, 4, 2, 4, 2, 4, 4, 4, 5, 2, 2, 0, 0, 6,
            5, 21, 2, 0, 1, 6, 1, -4, 5, 12, 2, 1, 0, 6, 5, 0, 3, -1, -1, 16,
            19, 10, 0, 0, 2, 1, 20, 21, 0, 3, 8, 3, 10, 1, 10, 12, 0, 2, 8, 4,
            1, -4, 5, 18, 4, -1, -1, 18, 11, 3, 0, -3, 1, 3, 3, 16, 0, 2, 10, 6, 1, 104, 5, 4, 4, -1, -1, 18,
        ])

    def test_whole_numbers_alone(self):
        found = answers(CALLS + LATER_CALLS)
        self.assertEqual([number for number in found if not isinstance(number, int) or isinstance(number, bool)], [])
        self.assertIs(list, type(found))

    def test_what_is_handed_in_stays_as_it_was(self):
        for calls in (CALLS, LATER_CALLS):
            handed = list(calls)
            answers(handed)
            self.assertEqual(handed, calls)

    def test_nothing_is_changed_for_a_while_either(self):
        class Watched(list):
            def refuse(self, *told):
                raise AssertionError("what was handed in is changed")

            append = clear = extend = insert = pop = remove = reverse = sort = refuse
            __setitem__ = __delitem__ = __iadd__ = __imul__ = refuse

        for calls in (CALLS, LATER_CALLS):
            self.assertEqual(answers(Watched(calls)), answers(calls))

    def test_a_second_call_knows_nothing_of_the_first(self):
        first = answers(CALLS)
        self.assertEqual(answers(CALLS), first)
        self.assertEqual(answers(flat([stake(0, 10), deal(5, 1, 6, 8), STAND])), [1, -1, 1, -4, 1, -3])
        self.assertEqual(answers(begin()), [1, 52])
        for phase in PHASES:
            answers(flat(PHASES[phase]))
            self.assertEqual(play(NOW, ask_seat(0), SHOE), [[0, 0, -1, -1, 0], [-1], [0] * 14])
            self.assertEqual(play(begin(), ask_seat(0), SHOE)[1:], [[0, 0, 0, 0], [52] + [4] * 13])
        self.assertEqual(answers(LATER_CALLS), answers(LATER_CALLS))

    def test_what_is_given_back_is_new_each_time(self):
        first = answers(begin())
        first.append(7)
        self.assertEqual(answers(begin()), [1, 52])

    def test_a_card_list_is_read_by_its_count(self):
        self.assertEqual(answers(flat([begin(), deal(*[6] * 20), begin()])), [1, 52, 1, -4, 1, 52])
        self.assertEqual(answers(flat([begin(), deal(), begin()])), [1, 52, 1, -4, 1, 52])
        self.assertEqual(answers(flat([begin(), dealer(*[6] * 20), begin()])), [1, 52, 1, -3, 1, 52])
        self.assertEqual(answers(flat([begin(), dealer(), begin()])), [1, 52, 1, -3, 1, 52])
        to_draw = flat(PHASES[3])
        self.assertEqual(answers(to_draw + flat([dealer(*[6] * 20), begin()]))[-4:], [1, -4, 1, 52])
        self.assertEqual(answers(to_draw + flat([dealer(), begin()]))[-4:], [1, -4, 1, 52])

    def test_numbers_as_far_as_they_go(self):
        for number in (LOWEST, HIGHEST):
            calls = [
                begin(number, number, number, number, number, number), stake(number, number), deal(*[number] * 20),
                insure(number, number), hit(number), double(number), split(number, number), dealer(*[number] * 20),
                shuffle(number), ask_seat(number),
            ]
            self.assertEqual(play(*calls), [[-1]] * 10)
            for before in PHASES.values():
                self.assertEqual(play(*before, *calls)[len(before):], [[-1]] * 10)

    def test_one_number_as_far_as_it_goes(self):
        calls = [
            begin(2, 1, 0, 0, 0, 1), stake(0, 5), deal(2, 3, 4, 5), insure(0, 1), insure(-1, 1), hit(5), double(5),
            split(5, 6), dealer(5, 6), shuffle(1), ask_seat(0),
        ]
        for call in calls:
            for place in range(2 if call[0] in (3, 10) else 1, len(call)):
                for number in (LOWEST, HIGHEST):
                    wrong = call[:place] + [number] + call[place + 1:]
                    for before in PHASES.values():
                        self.assertEqual(play(*before, wrong)[-1], [-1], wrong)

    def test_250_calls(self):
        calls = [begin(7, 8)] + [stake(place % 7, place) for place in range(249)]
        self.assertEqual(answers(flat(calls))[:2], [1, 416])
        self.assertEqual(answers(flat(calls))[-2:], [1, 248])
        self.assertEqual(len(answers(flat(calls))), 500)
        found = play(*PHASES[2], *[split(8, 8), ask_seat(0), SHOE, NOW] * 61, STAND, STAND)
        self.assertEqual(len(found), 249)
        self.assertEqual(found[-2:], [[16, 2, 0, 1, 6], [16, 3, -1, -1, 16]])
        self.assertEqual(found[-3], [2, 2, 0, 0, 6])

    def test_a_call_of_another_number_fails(self):
        for call in (0, 15, -1):
            with self.assertRaises(KeyError):
                answers([call])
