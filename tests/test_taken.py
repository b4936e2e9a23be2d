"""Point 4 of the document, and what it says ahead of the points as far as taken goes."""

import random
import unittest

import plain_search
from deals import LEADS, NO_TRUMP, TRUMPS, deal, deal_by_suits, random_play, some_deal, turned
from lasttricks.hands import taken
from one_call import OneCall
from wrong_calls import WrongPlays


class WorkedByHand(unittest.TestCase):

    def check(self, call, played, tricks, turn):
        self.assertEqual(taken(*call, played), [tricks, turn], (call, played))

    def test_nothing_played(self):
        for k in range(1, 7):
            for trump in TRUMPS:
                for lead in LEADS:
                    self.check((k, trump, lead, list(range(4 * k))), [], 0, lead)
                    self.check((k, trump, lead, list(range(52 - 4 * k, 52))), [], 0, lead)

    def test_one_trick_goes_round_from_the_lead(self):
        for lead in LEADS:
            cards = [20, 21, 22, 23]
            played = cards[lead:] + cards[:lead]
            for trump in TRUMPS:
                for length in range(4):
                    self.check((1, trump, lead, cards), played[:length], 0, (lead + length) % 4)
                # The highest card is 3's.
                self.check((1, trump, lead, cards), played, 0, 3)

    def test_who_took_the_last_trick(self):
        for lead in LEADS:
            for taker in LEADS:
                cards = [16, 17, 18, 19]
                cards[taker] = 24
                self.check((1, NO_TRUMP, lead, cards), cards[lead:] + cards[:lead], 1 if taker in (0, 2) else 0, taker)

    def test_trump_takes_the_trick(self):
        cards = [0, 13, 26, 39]
        for lead in LEADS:
            played = cards[lead:] + cards[:lead]
            for trump in range(4):
                self.check((1, trump, lead, cards), played, 1 if trump in (0, 2) else 0, trump)
            self.check((1, NO_TRUMP, lead, cards), played, 1 if lead in (0, 2) else 0, lead)

    def test_the_highest_of_several_trumps_takes_it(self):
        for lead in LEADS:
            cards = deal(*turned([[12], [39], [41], [40]], lead))
            self.check((1, 3, lead, cards), [12, 39, 41, 40], 1 if lead in (0, 2) else 0, (lead + 2) % 4)
            cards = deal(*turned([[12], [39], [11], [40]], lead))
            self.check((1, 3, lead, cards), [12, 39, 11, 40], 1 if lead in (1, 3) else 0, (lead + 3) % 4)

    def test_a_high_card_of_a_third_suit_does_not_take_it(self):
        for lead in LEADS:
            cards = deal(*turned([[0], [51], [25], [1]], lead))
            self.check((1, 2, lead, cards), [0, 51, 25, 1], 1 if lead in (1, 3) else 0, (lead + 3) % 4)

    def test_two_tricks_step_by_step(self):
        # 2 takes the first trick, 3 the second with a trump.
        call = (2, 3, 0, deal([0, 13], [1, 14], [12, 15], [2, 51]))
        self.check(call, [0], 0, 1)
        self.check(call, [0, 1], 0, 2)
        self.check(call, [0, 1, 12], 0, 3)
        self.check(call, [0, 1, 12, 2], 1, 2)
        self.check(call, [0, 1, 12, 2, 15], 1, 3)
        self.check(call, [0, 1, 12, 2, 15, 51], 1, 0)
        self.check(call, [0, 1, 12, 2, 15, 51, 13], 1, 1)
        self.check(call, [0, 1, 12, 2, 15, 51, 13, 14], 1, 3)

    def test_cards_need_not_be_played_well(self):
        # 0 throws its 12 away on 2's card, and 3 takes the second trick.
        call = (2, NO_TRUMP, 2, deal([12, 13], [0, 14], [51, 15], [1, 16]))
        self.check(call, [51, 1, 12, 0], 1, 2)
        self.check(call, [51, 1, 12, 0, 15, 16, 13, 14], 1, 3)
        # 2 plays its low card first: 3 takes it, and 2's 51 is thrown away on 0's 12.
        self.check(call, [15, 16, 13, 14, 1, 12, 0, 51], 1, 0)

    def test_all_tricks_to_one_seat(self):
        for k in range(1, 7):
            for strong in LEADS:
                hands = turned([[suit * 13 + step for step in range(k)] for suit in range(4)], strong)
                cards = deal(*hands)
                # The lead's suit is the one that takes, and the strong seat goes on leading.
                played = []
                for step in range(k):
                    played += [hands[(strong + turn) % 4][step] for turn in range(4)]
                for length in range(4 * k + 1):
                    over = length // 4 if strong in (0, 2) else 0
                    self.check((k, NO_TRUMP, strong, cards), played[:length], over, (strong + length) % 4)


class AgainstPlainSearch(unittest.TestCase):

    def check_steps(self, rng, k, trump, lead, cards):
        whole = random_play(rng, k, trump, lead, cards)
        for length in range(4 * k + 1):
            call = (k, trump, lead, cards, whole[:length])
            self.assertEqual(taken(*call), plain_search.taken(*call), call)

    def test_any_deals(self):
        rng = random.Random(501)
        for k in range(1, 7):
            for trump in TRUMPS:
                for lead in LEADS:
                    for step in range(4):
                        self.check_steps(rng, k, trump, lead, some_deal(rng, k))

    def test_few_suits(self):
        rng = random.Random(502)
        for k in range(1, 7):
            for trump in TRUMPS:
                for lead in LEADS:
                    for step in range(3):
                        self.check_steps(rng, k, trump, lead, deal_by_suits(rng, k))

    def test_first_and_last_cards_of_the_suits(self):
        rng = random.Random(503)
        edges = [0, 12, 13, 25, 26, 38, 39, 51]
        for k in (1, 2):
            for trump in TRUMPS:
                for lead in LEADS:
                    for step in range(5):
                        self.check_steps(rng, k, trump, lead, some_deal(rng, k, edges))


class Refused(WrongPlays, unittest.TestCase):

    def answer_played(self, k, trump, lead, cards, played):
        return taken(k, trump, lead, cards, played)


class Calls(OneCall, unittest.TestCase):

    function = staticmethod(taken)

    def length(self, call):
        return 2

    def calls(self):
        rng = random.Random(504)
        for k in range(1, 7):
            for step in range(6):
                trump = rng.randrange(5)
                lead = rng.randrange(4)
                cards = some_deal(rng, k)
                whole = random_play(rng, k, trump, lead, cards)
                for length in (0, rng.randrange(4 * k), 4 * k):
                    yield k, trump, lead, cards, whole[:length]
                yield k, trump, lead, cards, whole[:2] + [255]
                yield k, trump, lead, cards, whole + [0]
        yield 1, 5, 0, [0, 1, 2, 3], []
        yield 1, 0, 0, [0, 0, 1, 2], [0, 0]
        yield 0, 0, 0, [], []


if __name__ == "__main__":
    unittest.main()
