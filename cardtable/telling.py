"""The calls that only tell: they change nothing, whatever the phase."""

from cardtable.cards import is_soft


def now(table):
    return [table.phase] + table.standing()


def tell_seat(table, place):
    if not table.has_seat(place):
        return [-1]
    seat = table.seats[place]
    answer = [seat.stake, seat.insured, seat.won, len(seat.hands)]
    for hand in seat.hands:
        answer.extend(tell_hand(hand))
    return answer


def tell_hand(hand):
    soft = 1 if is_soft(hand.cards) else 0
    return [hand.state, hand.stake, hand.points(), soft, len(hand.cards)] + hand.cards


def tell_shoe(table):
    return [table.shoe.size()] + table.shoe.left
