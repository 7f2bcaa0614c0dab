"""What is paid, in halves of units."""

from cardtable.cards import is_natural, total
from cardtable.hand import BEYOND, GIVEN_UP


def hand_pay(hand, dealer):
    if hand.state == GIVEN_UP:
        return -hand.stake
    if hand.state == BEYOND:
        return -2 * hand.stake
    if hand.natural():
        return 0 if is_natural(dealer) else 3 * hand.stake
    # A hand of a split may count 21 on two cards as the dealer does, and yet it loses.
    if is_natural(dealer):
        return -2 * hand.stake
    return compared_pay(hand, total(dealer))


def compared_pay(hand, dealer_points):
    if dealer_points > 21 or dealer_points < hand.points():
        return 2 * hand.stake
    if dealer_points > hand.points():
        return -2 * hand.stake
    return 0


def insurance_pay(insured, dealer):
    return 2 * insured if is_natural(dealer) else -insured


def seat_pay(seat, dealer):
    return sum([hand_pay(hand, dealer) for hand in seat.hands]) + insurance_pay(seat.insured, dealer)
