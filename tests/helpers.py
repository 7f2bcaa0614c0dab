"""What the tests share: calls as lists of numbers, and tables to look into."""

import unittest

from cardtable.reader import Reader
from cardtable.rounds import Table
from cardtable.table import answer_call, answers

LOWEST = -2147483648
HIGHEST = 2147483647
STAND = [6]
DONE = [4, -1, 0]


def begin(seats=1, decks=1, soft=0, again=0, giving=0, hands=1):
    return [1, seats, decks, soft, again, giving, hands]


def stake(seat, units):
    return [2, seat, units]


def deal(*cards):
    return [3, len(cards), *cards]


def insure(seat, yes):
    return [4, seat, yes]


def hit(card):
    return [5, card]


def double(card):
    return [7, card]


def flat(calls):
    return [number for call in calls for number in call]


def parted(numbers):
    """The answers one by one, each without its count."""
    found = []
    place = 0
    while place < len(numbers):
        length = numbers[place]
        found.append(numbers[place + 1:place + 1 + length])
        if len(found[-1]) != length:
            raise AssertionError("a count is not that of its answer")
        place += 1 + length
    return found


def play(*calls):
    found = parted(answers(flat(calls)))
    if len(found) != len(calls):
        raise AssertionError("not one answer for each call")
    return found


def last(*calls):
    return play(*calls)[-1]


def table_behind(*calls):
    """The table itself, for what no call of these tells."""
    table = Table()
    for call in calls:
        answer_call(table, Reader(call))
    return table


def picture(table):
    """All that a table keeps, to be compared."""
    kept = dict(vars(table))
    kept["shoe"] = dict(vars(table.shoe), left=list(table.shoe.left))
    kept["dealer"] = list(table.dealer)
    kept["seats"] = [
        dict(vars(seat), hands=[dict(vars(hand), cards=list(hand.cards)) for hand in seat.hands])
        for seat in table.seats
    ]
    return kept


def won(*calls):
    return [seat.won for seat in table_behind(*calls).seats]


def states(*calls):
    return [[hand.state for hand in seat.hands] for seat in table_behind(*calls).seats]


class TableTest(unittest.TestCase):
    def refused(self, before, call, code):
        """The call is answered by that number alone, and the table is as it was."""
        with self.subTest(before=before, call=call):
            self.assertEqual(last(*before, call), [code])
            table = table_behind(*before)
            was = picture(table)
            self.assertEqual(answer_call(table, Reader(call)), [code])
            self.assertEqual(picture(table), was)
