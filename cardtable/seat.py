"""A seat: what it has staked, insured and won, and its hands."""


class Seat:
    def __init__(self):
        # In halves of units, and over all rounds.
        self.won = 0
        self.clear_round()

    def clear_round(self):
        self.stake = 0
        self.insured = 0
        self.hands = []
