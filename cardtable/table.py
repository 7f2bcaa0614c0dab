"""The interface: a list of calls about one table, and what they are answered."""

from cardtable.calls import (
    begin, deal, double, draw_for_dealer, give_up, hit, insure, shuffle, split_hand, stake, stand,
)
from cardtable.reader import Reader
from cardtable.rounds import Table
from cardtable.telling import now, tell_seat, tell_shoe

# How many numbers each call has of its own; deal and dealer have a row behind them instead.
NUMBERS = {1: 6, 2: 2, 3: 0, 4: 2, 5: 1, 6: 0, 7: 1, 8: 2, 9: 0, 10: 0, 11: 1, 12: 0, 13: 1, 14: 0}


def answers(calls):
    table = Table()
    reader = Reader(calls)
    answered = []
    while not reader.at_end():
        answer = answer_call(table, reader)
        answered.append(len(answer))
        answered.extend(answer)
    return answered


def answer_call(table, reader):
    call = reader.read_number()
    told = reader.read_numbers(NUMBERS[call])
    if call == 1:
        return begin(table, told[0], told[1], told[2], told[3], told[4], told[5])
    if call == 2:
        return stake(table, told[0], told[1])
    if call == 3:
        return deal(table, reader.read_row())
    if call == 4:
        return insure(table, told[0], told[1])
    if call == 5:
        return hit(table, told[0])
    if call == 6:
        return stand(table)
    if call == 7:
        return double(table, told[0])
    if call == 8:
        return split_hand(table, told[0], told[1])
    if call == 9:
        return give_up(table)
    if call == 10:
        return draw_for_dealer(table, reader.read_row())
    if call == 11:
        return shuffle(table, told[0])
    if call == 12:
        return now(table)
    if call == 13:
        return tell_seat(table, told[0])
    return tell_shoe(table)
