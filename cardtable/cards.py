"""What cards are and what they count."""

ACE = 1


def is_card(card):
    return 1 <= card <= 13


def are_cards(cards):
    return all([is_card(card) for card in cards])


def worth(card):
    return min(card, 10)


def hard_total(cards):
    return sum([worth(card) for card in cards])


def is_soft(cards):
    return ACE in cards and hard_total(cards) <= 11


def total(cards):
    if is_soft(cards):
        return hard_total(cards) + 10
    return hard_total(cards)


def is_natural(cards):
    return len(cards) == 2 and total(cards) == 21


def is_pair(cards):
    return len(cards) == 2 and worth(cards[0]) == worth(cards[1])
