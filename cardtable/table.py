"""The interface: a list of calls about one table, and what they are answered."""

from cardtable.calls import begin, deal, double, hit, insure, stake, stand
from cardtable.reader import Reader
from cardtable.rounds import Table


def answers(calls):
    table = Table()
    reader = Reader(calls)
    answered = []
    while not reader.at_end():
        answer = answer_call(table, reader)
        answered.append(len(answer))
        answered.extend(answer)
    return answered


def answer_call(table, reader):
    call = reader.read_number()
    if call == 1:
        return answer_begin(table, reader)
    if call == 2:
        place = reader.read_number()
        return stake(table, place, reader.read_number())
    if call == 3:
        return deal(table, reader.read_row())
    if call == 4:
        place = reader.read_number()
        return insure(table, place, reader.read_number())
    if call == 5:
        return hit(table, reader.read_number())
    if call == 6:
        return stand(table)
    if call == 7:
        return double(table, reader.read_number())
    # Calls 8 to 14 are not built yet; to go on would take their numbers for calls.
    raise KeyError(call)


def answer_begin(table, reader):
    told = [reader.read_number() for number in range(6)]
    return begin(table, told[0], told[1], told[2], told[3], told[4], told[5])
