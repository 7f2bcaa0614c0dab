"""A seat: what it has staked, insured and won, and its hands."""


class Seat:
    def __init__(self):
        # In halves of units, and over all rounds.
        self.won = 0
        self.clear_round()

    def clear_round(self):
        self.stake = 0
        self.insured = 0
        self.hands = []

    def part_hand(self, number, first, second):
        hand = self.hands[number]
        halves = [hand.make_half(0, first), hand.make_half(1, second)]
        self.hands = self.hands[:number] + halves + self.hands[number + 1:]
