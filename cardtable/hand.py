"""A hand of a seat: its stake, its cards and what has become of it."""

from cardtable.cards import ACE, is_natural, total

IN_PLAY = 0
STANDS = 1
BEYOND = 2
GIVEN_UP = 3


class Hand:
    def __init__(self, stake, cards, parted):
        self.stake = stake
        self.cards = list(cards)
        # Whether it comes of a split: then it is never a natural.
        self.parted = parted
        self.state = IN_PLAY

    def points(self):
        return total(self.cards)

    def natural(self):
        return not self.parted and is_natural(self.cards)

    def settle(self):
        if self.points() > 21:
            self.state = BEYOND
        elif self.points() == 21:
            self.state = STANDS

    def draw(self, card):
        self.cards.append(card)
        self.settle()

    def stand(self):
        if self.state == IN_PLAY:
            self.state = STANDS

    def give_up(self):
        self.state = GIVEN_UP

    def awaits_dealer(self):
        return self.state == STANDS and not self.natural()

    def make_half(self, number, card):
        """The one of both hands that a split makes of it: with its own card of that number and a new one."""
        half = Hand(self.stake, [self.cards[number]], True)
        half.draw(card)
        if self.cards[number] == ACE:
            half.stand()
        return half
