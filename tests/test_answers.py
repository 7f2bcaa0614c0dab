"""How calls are handed in and how answers are given back."""

import unittest

from cardtable.table import answers
from helpers import DONE, HIGHEST, LOWEST, STAND, begin, deal, double, flat, hit, insure, stake

CALLS = flat([
    begin(2), stake(0, 10), deal(5, 1, 6, 8), insure(0, 1), insure(1, 1), DONE, hit(2), STAND, double(3), deal(5),
    stake(1, 1001), deal(), stake(1, 4), deal(10, 9, 9, 9), double(2), deal(*[3] * 20), STAND,
])


class Answers(unittest.TestCase):
    def test_each_answer_stands_behind_its_count(self):
        self.assertEqual(answers(CALLS), [
            1, 52, 1, 10, 5, 0, 1, -1, -1, 11, 1, 1, 1, -4, 5, 0, 2, 0, 0, 11,
            5, 13, 2, 0, 0, 11, 5, 13, 4, -1, -1, 19, 1, -3, 1, -3,
            1, -1, 1, -3, 1, 4, 5, 0, 2, 1, 0, 9, 5, 21, 4, -1, -1, 18, 1, -3, 1, -3,
        ])

    def test_whole_numbers_alone(self):
        found = answers(CALLS)
        self.assertEqual([number for number in found if not isinstance(number, int) or isinstance(number, bool)], [])
        self.assertIs(list, type(found))

    def test_what_is_handed_in_stays_as_it_was(self):
        handed = list(CALLS)
        answers(handed)
        self.assertEqual(handed, CALLS)

    def test_nothing_is_changed_for_a_while_either(self):
        class Watched(list):
            def refuse(self, *told):
                raise AssertionError("what was handed in is changed")

            append = clear = extend = insert = pop = remove = reverse = sort = refuse
            __setitem__ = __delitem__ = __iadd__ = __imul__ = refuse

        self.assertEqual(answers(Watched(CALLS)), answers(CALLS))

    def test_a_second_call_knows_nothing_of_the_first(self):
        first = answers(CALLS)
        self.assertEqual(answers(CALLS), first)
        self.assertEqual(answers(flat([stake(0, 10), deal(5, 1, 6, 8), STAND])), [1, -1, 1, -4, 1, -3])
        self.assertEqual(answers(begin()), [1, 52])

    def test_what_is_given_back_is_new_each_time(self):
        first = answers(begin())
        first.append(7)
        self.assertEqual(answers(begin()), [1, 52])

    def test_a_card_list_is_read_by_its_count(self):
        self.assertEqual(answers(flat([begin(), deal(*[6] * 20), begin()])), [1, 52, 1, -4, 1, 52])
        self.assertEqual(answers(flat([begin(), deal(), begin()])), [1, 52, 1, -4, 1, 52])

    def test_numbers_as_far_as_they_go(self):
        for number in (LOWEST, HIGHEST):
            calls = [
                begin(number, number, number, number, number, number), stake(number, number), deal(*[number] * 20),
                insure(number, number), hit(number), double(number), STAND,
            ]
            self.assertEqual(answers(flat(calls)), [1, -1] * 6 + [1, -3])
            self.assertEqual(answers(flat([begin()] + calls)), [1, 52] + [1, -1] * 6 + [1, -3])

    def test_250_calls(self):
        calls = [begin(7, 8)] + [stake(place % 7, place) for place in range(249)]
        self.assertEqual(answers(flat(calls))[:2], [1, 416])
        self.assertEqual(answers(flat(calls))[-2:], [1, 248])
        self.assertEqual(len(answers(flat(calls))), 500)

    def test_a_call_of_another_number_fails(self):
        with self.assertRaises(KeyError):
            answers([0])
