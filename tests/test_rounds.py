"""How it stands behind each call, through whole rounds with several seats."""

import random
import unittest

from cardtable.reader import Reader
from cardtable.table import answer_call
from helpers import (
    DONE, GIVE, NOW, SHOE, STAND, TableTest, ask_seat, begin, deal, dealer, double, hit, insure, picture, play, shuffle,
    split, stake, states, table_behind, won,
)


class WholeRounds(TableTest):
    def test_all_seats_in_order_till_the_dealer_draws(self):
        found = play(
            begin(5, 2), stake(4, 5), stake(1, 10), stake(2, 20), deal(10, 9, 2, 6, 2, 8, 3, 10),
            hit(5), hit(4), double(9), hit(7), hit(10), stake(1, 5), deal(), DONE, STAND,
        )
        self.assertEqual(found[4:], [
            [0, 2, 1, 0, 6],
            [17, 2, 1, 0, 6], [21, 2, 2, 0, 6], [26, 2, 4, 0, 6], [12, 2, 4, 0, 6], [22, 3, -1, -1, 16],
            [-3], [-3], [-3], [-3],
        ])

    def test_rounds_behind_one_another(self):
        found = play(
            begin(3), stake(0, 10), stake(2, 10), deal(10, 10, 9, 9, 8, 8), STAND, STAND,
            stake(1, 10), deal(5, 1, 6, 13), insure(1, 1), DONE,
            stake(2, 10), deal(1, 2, 13, 2), stake(0, 10), deal(7, 7, 7, 7), STAND,
        )
        self.assertEqual(found[3:6], [[0, 2, 0, 0, 9], [19, 2, 2, 0, 9], [18, 4, -1, -1, 17]])
        self.assertEqual(found[7:10], [[0, 1, -1, -1, 11], [1], [0, 4, -1, -1, 21]])
        self.assertEqual(found[11:], [[0, 4, -1, -1, 4], [10], [0, 2, 0, 0, 7], [14, 3, -1, -1, 14]])

    def test_the_shoe_lasts_over_rounds(self):
        fives = [begin(), stake(0, 1), deal(5, 5, 5, 5), STAND]
        self.assertEqual(play(*fives)[-1], [10, 3, -1, -1, 10])
        ends = [begin(), stake(0, 1), deal(5, 5, 9, 10), hit(5), hit(5)]
        self.assertEqual(play(*ends)[-1], [24, 4, -1, -1, 15])
        self.refused(ends + [stake(0, 1)], deal(5, 6, 7, 8), -5)
        self.assertEqual(play(*ends, begin(), stake(0, 1), deal(5, 6, 7, 8))[-1], [0, 2, 0, 0, 6])

    def test_the_last_seats_natural_is_passed_over(self):
        calls = [begin(2), stake(0, 1), stake(1, 1), deal(9, 1, 10, 9, 10, 9), STAND]
        self.assertEqual(play(*calls)[-1], [18, 4, -1, -1, 19])
        self.assertEqual(states(*calls), [[1], [1]])
        self.assertEqual(won(*calls), [-2, 3])


def random_begin(chance):
    rules = [chance.randint(0, 1) for rule in range(3)]
    return begin(chance.randint(1, 7), chance.randint(1, 8), *rules, chance.randint(1, 4))


def random_draw(chance, soft, cards):
    """What a dealer of these draws, now and then a card more or less."""
    drawn = []
    while counted(cards + drawn) < 17 or (soft and is_soft_17(cards + drawn)):
        drawn.append(chance.randint(1, 13))
    if chance.random() < 0.2:
        return chance.choice((drawn[:-1], drawn + [chance.randint(1, 13)]))
    return drawn


def counted(cards):
    """What cards count, told another way: the best of what each ace may count."""
    hard = sum(min(card, 10) for card in cards)
    counts = [hard + 10 * aces for aces in range(cards.count(1) + 1)]
    return max([points for points in counts if points <= 21], default=hard)


def is_soft_17(cards):
    return counted(cards) == 17 and sum(min(card, 10) for card in cards) == 7


def random_call(chance, table):
    wild = chance.random() < 0.1
    card = chance.choice((0, 14)) if wild else chance.choice((1, 8, 10, *range(1, 14)))
    if chance.random() < 0.01:
        return random_begin(chance)
    if table.phase in (0, 4) and not wild:
        if chance.random() < 0.1:
            return shuffle(chance.randint(0, 9))
        if chance.random() < 0.7:
            return stake(chance.randrange(8), chance.randint(0, 20))
        return deal(*[chance.choice((1, 8, 10, *range(1, 14))) for place in range(2 * len(table.players()) + 2)])
    if table.phase == 1 and not wild:
        return insure(chance.randrange(-1, 7), chance.randint(0, 1))
    if table.phase == 3 and not wild:
        return dealer(*random_draw(chance, table.draws_soft, table.dealer))
    if table.phase == 2 and chance.random() < 0.4:
        return split(card, chance.randint(1, 13))
    return chance.choice((
        hit(card), STAND, double(card), DONE, stake(-1, 5), deal(card), split(card, 5), GIVE, dealer(card), shuffle(1),
        NOW, SHOE, ask_seat(chance.randrange(-1, 8)),
    ))


def told_cards(call):
    return {3: call[2:], 5: call[1:], 7: call[1:], 8: call[1:], 10: call[2:]}.get(call[0], [])


def pay_by_the_words(hand, cards):
    stake, points = hand["stake"], counted(hand["cards"])
    natural = len(cards) == 2 and counted(cards) == 21
    if hand["state"] == 3:
        return -stake
    if points > 21:
        return -2 * stake
    if points == 21 and len(hand["cards"]) == 2 and not hand["parted"]:
        return 0 if natural else 3 * stake
    if natural or 21 >= counted(cards) > points:
        return -2 * stake
    return 0 if counted(cards) == points else 2 * stake


class ManyRounds(unittest.TestCase):
    """What the document promises of every table holds behind every call."""

    # Each call with each phase that it may lead to.
    REACHED = [
        (1, 0), (2, 0), (3, 1), (3, 2), (3, 4), (4, 1), (4, 2), (4, 4), (5, 2), (5, 3), (5, 4), (6, 2), (6, 3), (6, 4),
        (7, 2), (7, 3), (7, 4), (8, 2), (8, 3), (8, 4), (9, 2), (9, 3), (9, 4), (10, 4), (11, 0), (11, 4),
    ]

    def test_many_tables(self):
        reached = set()
        for seed in range(120):
            chance = random.Random(seed)
            table = table_behind(random_begin(chance))
            for number in range(250):
                call = random_call(chance, table)
                was = picture(table)
                answer = answer_call(table, Reader(call))
                if answer[0] >= 0:
                    reached.add((call[0], table.phase))
                self.check_call(call, answer, was, picture(table))
                self.check_turn(table)
        self.assertEqual(set(self.REACHED) - reached, set())

    def check_call(self, call, answer, was, now):
        if answer[0] < 0:
            self.assertEqual(len(answer), 1)
        if answer[0] < 0 or call[0] in (12, 13, 14):
            self.assertEqual(was, now)
            return
        self.check_won(call, was, now)
        if call[0] in (1, 11):
            return
        left = list(was["shoe"]["left"])
        for card in told_cards(call):
            left[card - 1] -= 1
        self.assertEqual(left, now["shoe"]["left"])
        self.assertGreaterEqual(min(left), 0)

    def check_won(self, call, was, now):
        if call[0] == 1:
            self.assertEqual([seat["won"] for seat in now["seats"]], [0] * call[1])
        elif now["phase"] == 4 and was["phase"] != 4:
            self.check_pay(was, now)
        else:
            self.assertEqual([seat["won"] for seat in was["seats"]], [seat["won"] for seat in now["seats"]])

    def check_pay(self, was, now):
        natural = sorted(min(card, 10) for card in now["dealer"]) == [1, 10]
        for before, behind in zip(was["seats"], now["seats"]):
            change = behind["won"] - before["won"]
            staked = sum(hand["stake"] for hand in behind["hands"])
            insured = behind["insured"]
            insurance = 2 * insured if natural else -insured
            self.assertGreaterEqual(change - insurance, -2 * staked)
            self.assertLessEqual(change - insurance, 3 * staked)
            if natural and insured:
                self.assertGreaterEqual(change, 0)
            paid = [pay_by_the_words(hand, now["dealer"]) for hand in behind["hands"]]
            self.assertEqual(change - insurance, sum(paid))

    def check_turn(self, table):
        told = table.standing()
        hands = [(place, number, hand.state) for place, seat in enumerate(table.seats)
                 for number, hand in enumerate(seat.hands)]
        in_play = [[place, number] for place, number, state in hands if state == 0]
        if table.phase == 2:
            self.assertEqual(told[1:3], in_play[0])
            self.assertTrue(2 <= told[3] <= 11)
        else:
            self.assertEqual(told[1:3], [-1, -1])
        if table.phase == 3:
            self.assertEqual(in_play, [])
            self.assertLessEqual(told[3], 17)
            self.assertIn(1, [state for place, number, state in hands])
        if table.phase == 4:
            # When the dealer has drawn there is nothing left to draw.
            ended = [state for place, number, state in hands]
            self.assertTrue(0 not in ended or told[3] == 21)
        self.assertLessEqual(max([len(seat.hands) for seat in table.seats]), table.most_hands)
        if table.phase == 0:
            self.assertEqual((hands, told[3]), ([], 0))
        if table.phase == 1:
            self.assertEqual(told[3], 11)
            self.assertEqual(len(in_play), len(hands))
