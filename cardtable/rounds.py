"""The table itself, and how a round goes on from phase to phase."""

from cardtable.cards import ACE, is_natural, is_soft, total
from cardtable.hand import Hand, IN_PLAY
from cardtable.paying import seat_pay
from cardtable.seat import Seat
from cardtable.shoe import Shoe

STAKES = 0
INSURANCE = 1
HANDS = 2
DEALER = 3
PAID = 4


class Table:
    def __init__(self):
        # No table yet is a table without seats and with an empty shoe.
        self.set_up(0, 0, 0, 0, 0, 0)

    def set_up(self, seats, decks, soft, again, giving, hands):
        self.seats = [Seat() for place in range(seats)]
        self.shoe = Shoe(decks)
        self.draws_soft = soft == 1
        self.doubles_parted = again == 1
        self.lets_give_up = giving == 1
        self.most_hands = hands
        self.phase = STAKES
        self.dealer = []

    def is_set_up(self):
        # Each table that was begun has a seat at least.
        return len(self.seats) > 0

    def shuffle(self, decks):
        self.shoe = Shoe(decks)

    def clear_round(self):
        for seat in self.seats:
            seat.clear_round()
        self.phase = STAKES
        self.dealer = []

    def has_seat(self, place):
        return 0 <= place < len(self.seats)

    def players(self):
        return [seat for seat in self.seats if seat.stake > 0]

    def all_hands(self):
        hands = []
        for seat in self.seats:
            hands.extend(seat.hands)
        return hands

    def turn(self):
        if self.phase == HANDS:
            for place, seat in enumerate(self.seats):
                for number, hand in enumerate(seat.hands):
                    if hand.state == IN_PLAY:
                        return [place, number]
        return [-1, -1]

    def asked_seat(self):
        return self.seats[self.turn()[0]]

    def asked_hand(self):
        return self.asked_seat().hands[self.turn()[1]]

    def dealer_points(self):
        if self.phase in (INSURANCE, HANDS):
            return total(self.dealer[:1])
        return total(self.dealer)

    def standing(self):
        return [self.phase] + self.turn() + [self.dealer_points()]

    def hand_out(self, cards):
        self.shoe.take(cards)
        half = len(cards) // 2
        for place, seat in enumerate(self.players()):
            seat.hands = [Hand(seat.stake, [cards[place], cards[half + place]], False)]
        self.dealer = [cards[half - 1], cards[-1]]
        if self.dealer[0] == ACE:
            self.phase = INSURANCE
        else:
            self.look()

    def look(self):
        # Naturals stand only now, so that all hands are in play while insurance may be had.
        for hand in self.all_hands():
            hand.settle()
        if is_natural(self.dealer):
            self.pay()
        else:
            self.go_on()

    def draw(self, hand, card):
        self.shoe.take([card])
        hand.draw(card)

    def part(self, first, second):
        self.shoe.take([first, second])
        self.asked_seat().part_hand(self.turn()[1], first, second)

    def go_on(self):
        if any([hand.state == IN_PLAY for hand in self.all_hands()]):
            self.phase = HANDS
        elif self.dealer_draws():
            self.phase = DEALER
        else:
            self.pay()

    def dealer_draws(self):
        return any([hand.awaits_dealer() for hand in self.all_hands()]) and self.asks_for_card(self.dealer)

    def asks_for_card(self, cards):
        points = total(cards)
        return points < 17 or (points == 17 and self.draws_soft and is_soft(cards))

    def are_drawn(self, cards):
        """Whether the dealer draws all of these and none behind them."""
        drawn = list(self.dealer)
        for card in cards:
            if not self.asks_for_card(drawn):
                return False
            drawn.append(card)
        return not self.asks_for_card(drawn)

    def draw_for_dealer(self, cards):
        self.shoe.take(cards)
        self.dealer.extend(cards)
        self.pay()

    def pay(self):
        for seat in self.seats:
            seat.won += seat_pay(seat, self.dealer)
        self.phase = PAID
