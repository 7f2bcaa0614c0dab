"""The calls that change a table: each one refuses, changing nothing, or does what it tells."""

from cardtable.cards import are_cards, is_card, is_pair
from cardtable.rounds import DEALER, HANDS, INSURANCE, PAID, STAKES


def begin(table, seats, decks, soft, again, giving, hands):
    if not (1 <= seats <= 7 and 1 <= decks <= 8 and 1 <= hands <= 4):
        return [-1]
    if not (soft in (0, 1) and again in (0, 1) and giving in (0, 1)):
        return [-1]
    table.set_up(seats, decks, soft, again, giving, hands)
    return [table.shoe.size()]


def stake(table, place, units):
    if not table.has_seat(place) or not 0 <= units <= 1000:
        return [-1]
    if table.phase not in (STAKES, PAID):
        return [-3]
    if table.phase == PAID:
        table.clear_round()
    table.seats[place].stake = units
    return [units]


def deal(table, cards):
    if not are_cards(cards):
        return [-1]
    if table.phase != STAKES:
        return [-3]
    players = len(table.players())
    if players == 0 or len(cards) != 2 * players + 2:
        return [-4]
    if not table.shoe.holds(cards):
        return [-5]
    table.hand_out(cards)
    return [0] + table.standing()


def insure(table, place, yes):
    done = place == -1
    if not (done or table.has_seat(place)) or yes not in (0, 1):
        return [-1]
    if table.phase != INSURANCE:
        return [-3]
    if done:
        table.look()
        return [0] + table.standing()
    seat = table.seats[place]
    if seat.stake == 0:
        return [-4]
    seat.insured = seat.stake * yes
    return [yes]


def hit(table, card):
    if not is_card(card):
        return [-1]
    if table.phase != HANDS:
        return [-3]
    if not table.shoe.holds([card]):
        return [-5]
    hand = table.asked_hand()
    table.draw(hand, card)
    return go_on_behind(table, hand.points())


def stand(table):
    if table.phase != HANDS:
        return [-3]
    hand = table.asked_hand()
    hand.stand()
    return go_on_behind(table, hand.points())


def double(table, card):
    if not is_card(card):
        return [-1]
    if table.phase != HANDS:
        return [-3]
    hand = table.asked_hand()
    if not may_double(table, hand):
        return [-4]
    if not table.shoe.holds([card]):
        return [-5]
    hand.stake = 2 * hand.stake
    table.draw(hand, card)
    hand.stand()
    return go_on_behind(table, hand.points())


def may_double(table, hand):
    return len(hand.cards) == 2 and (table.doubles_parted or not hand.parted)


def split_hand(table, first, second):
    if not are_cards([first, second]):
        return [-1]
    if table.phase != HANDS:
        return [-3]
    if not may_split(table):
        return [-4]
    if not table.shoe.holds([first, second]):
        return [-5]
    table.part(first, second)
    return go_on_behind(table, 2)


def may_split(table):
    return is_pair(table.asked_hand().cards) and len(table.asked_seat().hands) < table.most_hands


def give_up(table):
    if table.phase != HANDS:
        return [-3]
    hand = table.asked_hand()
    if not may_give_up(table, hand):
        return [-4]
    hand.give_up()
    return go_on_behind(table, 0)


def may_give_up(table, hand):
    return table.lets_give_up and len(hand.cards) == 2 and not hand.parted


def go_on_behind(table, told):
    table.go_on()
    return [told] + table.standing()


def draw_for_dealer(table, cards):
    if not are_cards(cards):
        return [-1]
    if table.phase != DEALER:
        return [-3]
    if not table.are_drawn(cards):
        return [-4]
    if not table.shoe.holds(cards):
        return [-5]
    table.draw_for_dealer(cards)
    return [table.dealer_points()] + table.standing()


def shuffle(table, decks):
    if not 1 <= decks <= 8:
        return [-1]
    if not table.is_set_up():
        return [-2]
    if table.phase not in (STAKES, PAID):
        return [-3]
    table.shuffle(decks)
    return [table.shoe.size()]
