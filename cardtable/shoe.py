"""The shoe, counted down sort by sort."""

SORTS = 13
OF_EACH_SORT = 4


class Shoe:
    def __init__(self, decks):
        self.left = [OF_EACH_SORT * decks for card in range(SORTS)]

    def size(self):
        return sum(self.left)

    def holds(self, cards):
        return all([cards.count(card) <= self.left[card - 1] for card in cards])

    def take(self, cards):
        for card in cards:
            self.left[card - 1] -= 1
