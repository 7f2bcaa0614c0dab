"""What the tests share: calls as lists of numbers, and tables to look into."""

import unittest

from cardtable.reader import Reader
from cardtable.rounds import Table
from cardtable.table import answer_call, answers

LOWEST = -2147483648
HIGHEST = 2147483647
STAND = [6]
GIVE = [9]
NOW = [12]
SHOE = [14]
DONE = [4, -1, 0]


def begin(seats=1, decks=1, soft=0, again=0, giving=0, hands=1):
    return [1, seats, decks, soft, again, giving, hands]


def stake(seat, units):
    return [2, seat, units]


def deal(*cards):
    return [3, len(cards), *cards]


def insure(seat, yes):
    return [4, seat, yes]


def hit(card):
    return [5, card]


def double(card):
    return [7, card]


def split(first, second):
    return [8, first, second]


def dealer(*cards):
    return [10, len(cards), *cards]


def shuffle(decks):
    return [11, decks]


def ask_seat(seat):
    return [13, seat]


# What leads into each phase, at a table whose rules let all; in each but phase 0 seat 0 has two eights.
LENIENT = begin(3, 1, 1, 1, 1, 4)
PHASES = {
    0: [LENIENT, stake(0, 10)],
    1: [LENIENT, stake(0, 10), deal(8, 1, 8, 7), insure(0, 1)],
    2: [LENIENT, stake(0, 10), deal(8, 6, 8, 10)],
    3: [LENIENT, stake(0, 10), deal(8, 6, 8, 10), STAND],
    4: [LENIENT, stake(0, 10), deal(8, 9, 8, 10), STAND],
}

# Every way to stand outside of phase 2.
NOT_HANDS = [
    [],
    [begin()],
    [begin(2), stake(0, 10)],
    [begin(), stake(0, 10), deal(5, 1, 6, 10)],
    [begin(), stake(0, 10), deal(5, 1, 6, 10), insure(0, 1)],
    [begin(), stake(0, 10), deal(5, 1, 6, 10), DONE],
    [begin(), stake(0, 10), deal(5, 10, 6, 1)],
    [begin(), stake(0, 10), deal(10, 6, 6, 10), STAND],
    [begin(), stake(0, 10), deal(10, 6, 6, 10), STAND, dealer(4)],
    [begin(), stake(0, 10), deal(10, 9, 6, 10), STAND],
    [begin(), stake(0, 10), deal(10, 9, 6, 10), STAND, stake(0, 10)],
] + [PHASES[phase] for phase in (0, 1, 3, 4)]

ASK_ALL = [NOW, SHOE] + [ask_seat(place) for place in range(7)]


def flat(calls):
    return [number for call in calls for number in call]


def parted(numbers):
    """The answers one by one, each without its count."""
    found = []
    place = 0
    while place < len(numbers):
        length = numbers[place]
        found.append(numbers[place + 1:place + 1 + length])
        if len(found[-1]) != length:
            raise AssertionError("a count is not that of its answer")
        place += 1 + length
    return found


def play(*calls):
    found = parted(answers(flat(calls)))
    if len(found) != len(calls):
        raise AssertionError("not one answer for each call")
    return found


def last(*calls):
    return play(*calls)[-1]


def table_behind(*calls):
    """The table itself, for all that it keeps."""
    table = Table()
    for call in calls:
        answer_call(table, Reader(call))
    return table


def picture(table):
    """All that a table keeps, to be compared."""
    kept = dict(vars(table))
    kept["shoe"] = dict(vars(table.shoe), left=list(table.shoe.left))
    kept["dealer"] = list(table.dealer)
    kept["seats"] = [
        dict(vars(seat), hands=[dict(vars(hand), cards=list(hand.cards)) for hand in seat.hands])
        for seat in table.seats
    ]
    return kept


def won(*calls):
    return [seat.won for seat in table_behind(*calls).seats]


def states(*calls):
    return [[hand.state for hand in seat.hands] for seat in table_behind(*calls).seats]


class TableTest(unittest.TestCase):
    def refused(self, before, call, code):
        """The call is answered by that number alone, and the table is as it was."""
        with self.subTest(before=before, call=call):
            found = play(*before, *ASK_ALL, call, *ASK_ALL)[len(before):]
            self.assertEqual(found[len(ASK_ALL)], [code])
            self.assertEqual(found[:len(ASK_ALL)], found[len(ASK_ALL) + 1:])
            table = table_behind(*before)
            was = picture(table)
            self.assertEqual(answer_call(table, Reader(call)), [code])
            self.assertEqual(picture(table), was)
