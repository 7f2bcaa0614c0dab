"""A hand of a seat: its stake, its cards and what has become of it."""

from cardtable.cards import is_natural, total

IN_PLAY = 0
STANDS = 1
BEYOND = 2
GIVEN_UP = 3


class Hand:
    def __init__(self, stake, cards, parted):
        self.stake = stake
        self.cards = list(cards)
        # Whether it comes of a split: then it is never a natural.
        self.parted = parted
        self.state = IN_PLAY

    def points(self):
        return total(self.cards)

    def natural(self):
        return not self.parted and is_natural(self.cards)

    def settle(self):
        if self.points() > 21:
            self.state = BEYOND
        elif self.points() == 21:
            self.state = STANDS

    def draw(self, card):
        self.cards.append(card)
        self.settle()

    def stand(self):
        if self.state == IN_PLAY:
            self.state = STANDS

    def awaits_dealer(self):
        return self.state == STANDS and not self.natural()
