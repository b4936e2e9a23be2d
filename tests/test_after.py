"""Point 2 of the document, and what it says ahead of the points as far as after goes."""

import random
import unittest

import plain_search
import six_tricks
from deals import LEADS, NO_TRUMP, TRUMPS, deal, deal_by_suits, random_play, some_deal, turned
from lasttricks.hands import after, best
from one_call import OneCall
from wrong_calls import WrongPlays

NONE_LEFT = [0, 255, 255, 255, 255, 255, 255]


def answer_of(tricks, *good):
    """The answer with that number and those cards."""
    return [tricks] + list(good) + [255] * (6 - len(good))


class WorkedByHand(unittest.TestCase):

    def check(self, call, played, tricks, *good):
        self.assertEqual(after(*call, played), answer_of(tricks, *good), (call, played))

    def test_one_trick_step_by_step(self):
        call = (1, NO_TRUMP, 0, [12, 0, 1, 2])
        self.check(call, [], 1, 12)
        self.check(call, [12], 1, 0)
        self.check(call, [12, 0], 1, 1)
        self.check(call, [12, 0, 1], 1, 2)
        self.check(call, [12, 0, 1, 2], 0)

    def test_one_trick_that_1_takes(self):
        call = (1, 3, 3, [50, 51, 0, 1])
        self.check(call, [], 0, 1)
        self.check(call, [1], 0, 50)
        self.check(call, [1, 50], 0, 51)
        self.check(call, [1, 50, 51], 0, 0)
        self.check(call, [1, 50, 51, 0], 0)

    def test_the_lead_keeps_its_only_trick(self):
        # 0 takes one trick with 12 played first, and none with 13 played first.
        call = (2, NO_TRUMP, 0, deal([12, 13], [14, 15], [26, 27], [39, 40]))
        self.check(call, [], 1, 12)
        self.check(call, [12], 1, 14, 15)
        self.check(call, [12, 14], 1, 26, 27)
        self.check(call, [12, 14, 27], 1, 39, 40)
        # The trick that 0 took is over and doesn't count.
        self.check(call, [12, 14, 27, 39], 0, 13)
        self.check(call, [12, 14, 27, 39, 13], 0, 15)
        self.check(call, [12, 14, 27, 39, 13, 15, 26, 40], 0)
        # Badly played: both go to 1.
        self.check(call, [13], 0, 14, 15)
        self.check(call, [13, 15, 26, 39], 0, 14)

    def test_the_same_seen_from_1(self):
        # 1 wants few: with 12 first, 0 and 2 take one, with 13 first both.
        call = (2, NO_TRUMP, 1, deal([39, 40], [12, 13], [14, 15], [26, 27]))
        self.check(call, [], 1, 12)
        self.check(call, [12], 1, 14, 15)
        self.check(call, [12, 14, 27, 39], 1, 13)
        self.check(call, [13], 2, 14, 15)
        self.check(call, [13, 15, 26, 39], 1, 14)
        self.check(call, [13, 15, 26, 39, 14, 27], 1, 40)

    def test_the_trick_that_is_half_played_counts(self):
        # 0 has both high cards; the first trick counts till its fourth card lies there.
        call = (2, NO_TRUMP, 0, deal([12, 11], [0, 1], [2, 3], [4, 5]))
        self.check(call, [], 2, 11, 12)
        self.check(call, [11], 2, 0, 1)
        self.check(call, [11, 0], 2, 2, 3)
        self.check(call, [11, 0, 2], 2, 4, 5)
        self.check(call, [11, 0, 2, 4], 1, 12)
        self.check(call, [11, 0, 2, 4, 12, 1, 3], 1, 5)
        self.check(call, [11, 0, 2, 4, 12, 1, 3, 5], 0)

    def test_cards_side_by_side_stand_each_by_itself(self):
        call = (3, NO_TRUMP, 0, deal([10, 12, 11], [2, 0, 1], [3, 5, 4], [7, 8, 6]))
        self.check(call, [], 3, 10, 11, 12)
        self.check(call, [12], 3, 0, 1, 2)
        self.check(call, [12, 1, 5], 3, 6, 7, 8)

    def test_beating_as_cheaply_as_it_can(self):
        # 3 holds 0 and 2 to none with 3, which beats 2; with 12 it would leave them a trick.
        call = (2, NO_TRUMP, 0, deal([2, 11], [13, 14], [0, 1], [3, 12]))
        self.check(call, [2, 13, 0], 0, 3)
        self.check(call, [11, 13, 0], 0, 12)
        self.check(call, [2, 13, 0, 12], 1, 3)
        # Seen from the other side: 0 beats as cheaply.
        call = (2, NO_TRUMP, 1, deal([3, 12], [2, 11], [13, 14], [0, 1]))
        self.check(call, [2, 13, 0], 2, 3)
        self.check(call, [2, 13, 0, 3], 1, 12)
        self.check(call, [2, 13, 0, 12], 0, 3)

    def test_cards_of_other_suits_may_not_be_played(self):
        # 1 would keep its trump if it might, but it has the suit.
        call = (2, 3, 0, deal([12, 11], [0, 51], [13, 14], [1, 50]))
        self.check(call, [12], 1, 0)
        self.check(call, [12, 0, 13], 1, 1)
        self.check(call, [12, 0, 13, 1], 0, 11)
        self.check(call, [12, 0, 13, 1, 11], 0, 51)

    def test_trump_only_where_it_is_needed(self):
        # 0 has not the suit: 2 takes with 12, and 0's trump takes the trick after it.
        call = (2, 3, 2, deal([13, 39], [1, 25], [12, 14], [2, 26]))
        self.check(call, [], 2, 12)
        self.check(call, [12, 2], 2, 13)

    def test_any_card_is_as_good(self):
        hands = [[31, 26, 28, 27, 30, 29], [0, 1, 2, 3, 4, 5], [44, 43, 42, 41, 40, 39], [13, 15, 14, 18, 17, 16]]
        call = (6, NO_TRUMP, 0, deal(*hands))
        self.check(call, [], 6, 26, 27, 28, 29, 30, 31)
        self.check(call, [28], 6, 0, 1, 2, 3, 4, 5)
        self.check(call, [28, 3], 6, 39, 40, 41, 42, 43, 44)
        self.check(call, [28, 3, 40, 16], 5, 26, 27, 29, 30, 31)
        call = (6, NO_TRUMP, 3, deal(*hands))
        self.check(call, [], 0, 13, 14, 15, 16, 17, 18)
        self.check(call, [18], 0, 26, 27, 28, 29, 30, 31)

    def test_first_and_last_card_there_is(self):
        call = (1, NO_TRUMP, 3, [0, 13, 26, 51])
        self.check(call, [], 0, 51)
        self.check(call, [51], 0, 0)
        self.check(call, [51, 0], 0, 13)
        call = (1, 0, 3, [0, 13, 26, 51])
        self.check(call, [51], 1, 0)
        self.check(call, [51, 0, 13], 1, 26)

    def test_four_cards_of_the_first_trick_lead_to_who_took_it(self):
        # Each seat has a card of each of two suits; whoever takes the first trick goes on.
        hands = [[3, 13], [4, 14], [5, 15], [6, 16]]
        for lead in LEADS:
            cards = deal(*turned(hands, lead))
            first = [3, 4, 5, 6]
            self.assertEqual(after(2, NO_TRUMP, lead, cards, first)[1:], [16] + [255] * 5)


class AgainstPlainSearch(unittest.TestCase):

    def check(self, k, trump, lead, cards, played):
        expected = plain_search.after(k, trump, lead, cards, played)
        self.assertEqual(after(k, trump, lead, cards, played), expected, (k, trump, lead, cards, played))

    def check_steps(self, rng, k, trump, lead, cards, first=0):
        """Play all cards in some order, and ask after each of them from the first on."""
        whole = random_play(rng, k, trump, lead, cards)
        for length in range(first, 4 * k + 1):
            self.check(k, trump, lead, cards, whole[:length])

    def check_all_calls(self, rng, k, cards):
        for trump in TRUMPS:
            for lead in LEADS:
                self.check_steps(rng, k, trump, lead, cards)

    def test_one_to_three_tricks(self):
        rng = random.Random(301)
        for k, deals in ((1, 30), (2, 25), (3, 6)):
            for step in range(deals):
                self.check_all_calls(rng, k, some_deal(rng, k))

    def test_few_suits(self):
        rng = random.Random(302)
        for k, deals in ((1, 10), (2, 15), (3, 3)):
            for step in range(deals):
                self.check_all_calls(rng, k, deal_by_suits(rng, k))

    def test_one_suit_alone(self):
        rng = random.Random(303)
        for first in (0, 13, 26, 39):
            for k in (1, 2, 3):
                for trump in (first // 13, NO_TRUMP):
                    self.check_steps(rng, k, trump, rng.randrange(4), some_deal(rng, k, range(first, first + 13)))

    def test_first_and_last_cards_of_the_suits(self):
        rng = random.Random(304)
        edges = [0, 12, 13, 25, 26, 38, 39, 51]
        for step in range(10):
            self.check_all_calls(rng, 2, some_deal(rng, 2, edges))

    def test_four_tricks(self):
        rng = random.Random(305)
        for trump in TRUMPS:
            for lead in LEADS:
                self.check_steps(rng, 4, trump, lead, some_deal(rng, 4))

    def test_five_and_six_tricks_with_some_over(self):
        rng = random.Random(306)
        for trump in TRUMPS:
            for lead in LEADS:
                self.check_steps(rng, 5, trump, lead, some_deal(rng, 5), 7)
                self.check_steps(rng, 6, trump, lead, some_deal(rng, 6), 11)
                self.check_steps(rng, 6, trump, lead, deal_by_suits(rng, 6), 13)

    def test_six_tricks_from_the_beginning(self):
        for trump, lead, cards, first, played in six_tricks.ALL:
            self.assertEqual(after(6, trump, lead, cards, []), first, (trump, lead, cards))


class StepByStep(unittest.TestCase):
    """An answer held against the answers for one card more."""

    def check(self, k, trump, lead, cards, played):
        game = plain_search.replay(k, trump, lead, cards, played)
        outcomes = {}
        for card in game.allowed():
            over = game.played(card).over - game.over
            outcomes[card] = over + after(k, trump, lead, cards, played + [card])[0]
        reached = game.wanted(outcomes.values())
        good = [card for card in sorted(outcomes) if outcomes[card] == reached]
        call = (k, trump, lead, cards, played)
        self.assertEqual(after(*call), answer_of(reached, *good), call)

    def test_five_and_six_tricks(self):
        rng = random.Random(307)
        for k in (5, 6):
            for trump in TRUMPS:
                for lead in LEADS:
                    cards = some_deal(rng, k) if lead % 2 == 0 else deal_by_suits(rng, k)
                    whole = random_play(rng, k, trump, lead, cards)
                    for length in (0, 1, 2, 3, 4, 6, 9):
                        self.check(k, trump, lead, cards, whole[:length])

    def test_nothing_played_is_what_best_answers(self):
        rng = random.Random(308)
        for k in range(1, 7):
            for trump in TRUMPS:
                for lead in LEADS:
                    cards = some_deal(rng, k)
                    self.assertEqual(after(k, trump, lead, cards, [])[:1], best(k, trump, lead, cards))

    def test_all_cards_played(self):
        rng = random.Random(309)
        for k in range(1, 7):
            for trump in TRUMPS:
                for lead in LEADS:
                    cards = some_deal(rng, k)
                    whole = random_play(rng, k, trump, lead, cards)
                    self.assertEqual(after(k, trump, lead, cards, whole), NONE_LEFT)


class Refused(WrongPlays, unittest.TestCase):

    def answer_played(self, k, trump, lead, cards, played):
        return after(k, trump, lead, cards, played)


class Calls(OneCall, unittest.TestCase):

    function = staticmethod(after)

    def length(self, call):
        return 7

    def calls(self):
        rng = random.Random(310)
        for k in range(1, 7):
            for step in range(4):
                trump = rng.randrange(5)
                lead = rng.randrange(4)
                cards = some_deal(rng, k)
                whole = random_play(rng, k, trump, lead, cards)
                for length in (0, rng.randrange(4 * k), 4 * k):
                    yield k, trump, lead, cards, whole[:length]
                yield k, trump, lead, cards, whole[:2] + [255]
                yield k, trump, lead, cards, whole + [0]
        yield 1, 5, 0, [0, 1, 2, 3], []
        yield 1, 0, 0, [0, 0, 1, 2], [0, 0]
        yield 0, 0, 0, [], []


if __name__ == "__main__":
    unittest.main()
