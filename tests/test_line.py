"""Point 3 of the document, and what it says ahead of the points as far as line goes."""

import random
import unittest

import plain_search
import six_tricks
from deals import LEADS, NO_TRUMP, TRUMPS, deal, deal_by_suits, some_deal, turned
from lasttricks.hands import after, best, line
from one_call import OneCall
from wrong_calls import WrongDeals


class WorkedByHand(unittest.TestCase):

    def test_one_trick_goes_round_from_the_lead(self):
        self.assertEqual(line(1, NO_TRUMP, 0, [12, 0, 1, 2]), [1, 12, 0, 1, 2])
        self.assertEqual(line(1, NO_TRUMP, 1, [12, 0, 1, 2]), [1, 0, 1, 2, 12])
        self.assertEqual(line(1, NO_TRUMP, 2, [12, 0, 1, 2]), [1, 1, 2, 12, 0])
        self.assertEqual(line(1, NO_TRUMP, 3, [12, 0, 1, 2]), [1, 2, 12, 0, 1])
        self.assertEqual(line(1, NO_TRUMP, 3, [2, 12, 0, 1]), [0, 1, 2, 12, 0])

    def test_first_and_last_card_there_is(self):
        cards = [0, 13, 26, 51]
        self.assertEqual(line(1, NO_TRUMP, 3, cards), [0, 51, 0, 13, 26])
        self.assertEqual(line(1, 0, 3, cards), [1, 51, 0, 13, 26])
        self.assertEqual(line(1, 1, 3, cards), [0, 51, 0, 13, 26])

    def test_the_card_that_keeps_the_trick_comes_first(self):
        # The lead takes one trick with its highest card first, and none with the other one first.
        hands = [[12, 13], [14, 15], [26, 27], [39, 40]]
        for lead in LEADS:
            cards = deal(*turned(hands, lead))
            self.assertEqual(line(2, NO_TRUMP, lead, cards), [1, 12, 14, 26, 39, 13, 15, 27, 40])

    def test_the_least_of_cards_side_by_side(self):
        hands = [[12, 10, 11], [2, 0, 1], [3, 5, 4], [7, 8, 6]]
        for lead in LEADS:
            expected = [3 if lead in (0, 2) else 0, 10, 0, 3, 6, 11, 1, 4, 7, 12, 2, 5, 8]
            self.assertEqual(line(3, NO_TRUMP, lead, deal(*turned(hands, lead))), expected)

    def test_the_least_by_number_of_several_suits(self):
        # The lead has the highest card of three suits, which nobody else has cards of, or just lower ones.
        hands = [[51, 12, 25], [26, 27, 0], [28, 1, 29], [30, 2, 31]]
        for lead in LEADS:
            expected = [3 if lead in (0, 2) else 0, 12, 0, 1, 2, 25, 26, 28, 30, 51, 27, 29, 31]
            self.assertEqual(line(3, NO_TRUMP, lead, deal(*turned(hands, lead))), expected)

    def test_a_low_card_is_not_thrown_away_for_a_high_one(self):
        # The last to play has 3 and 12: with 3 it beats 2, and 12 beats 11.
        hands = [[2, 11], [13, 14], [0, 1], [3, 12]]
        for lead in LEADS:
            expected = [0 if lead in (0, 2) else 2, 2, 13, 0, 3, 12, 11, 14, 1]
            self.assertEqual(line(2, NO_TRUMP, lead, deal(*turned(hands, lead))), expected)

    def test_who_has_the_suit_has_to_play_it(self):
        # 1 and 3 have trumps, but the suit too; 1 takes the second trick.
        cards = deal([12, 11], [0, 51], [13, 14], [1, 50])
        self.assertEqual(line(2, 3, 0, cards), [1, 11, 0, 13, 1, 12, 51, 14, 50])

    def test_trump_is_kept_for_when_it_is_needed(self):
        # 0 has not the suit that 2 plays with 12, and keeps its trump for 14, which 1 would take else.
        cards = deal([13, 39], [1, 25], [12, 14], [2, 26])
        self.assertEqual(line(2, 3, 2, cards), [2, 12, 2, 13, 1, 14, 26, 39, 25])

    def test_a_suit_each(self):
        for k in range(1, 7):
            hands = [[suit * 13 + step for step in range(k)] for suit in (2, 0, 3, 1)]
            for lead in LEADS:
                cards = deal(*hands)
                expected = [k if lead in (0, 2) else 0]
                for step in range(k):
                    expected += [hands[(lead + turn) % 4][step] for turn in range(4)]
                self.assertEqual(line(k, NO_TRUMP, lead, cards), expected)


class AgainstPlainSearch(unittest.TestCase):

    def check(self, k, trump, lead, cards):
        expected = plain_search.line(k, trump, lead, cards)
        self.assertEqual(line(k, trump, lead, cards), expected, (k, trump, lead, cards))

    def check_all_calls(self, k, cards):
        for trump in TRUMPS:
            for lead in LEADS:
                self.check(k, trump, lead, cards)

    def test_one_to_three_tricks(self):
        rng = random.Random(401)
        for k, deals in ((1, 50), (2, 50), (3, 20)):
            for step in range(deals):
                self.check_all_calls(k, some_deal(rng, k))

    def test_few_suits(self):
        rng = random.Random(402)
        for k, deals in ((1, 20), (2, 30), (3, 8)):
            for step in range(deals):
                self.check_all_calls(k, deal_by_suits(rng, k))

    def test_one_suit_alone(self):
        rng = random.Random(403)
        for first in (0, 13, 26, 39):
            for k in (1, 2, 3):
                for trump in (first // 13, NO_TRUMP):
                    for lead in LEADS:
                        self.check(k, trump, lead, some_deal(rng, k, range(first, first + 13)))

    def test_first_and_last_cards_of_the_suits(self):
        rng = random.Random(404)
        edges = [0, 12, 13, 25, 26, 38, 39, 51]
        for k in (1, 2):
            for step in range(10):
                self.check_all_calls(k, some_deal(rng, k, edges))

    def test_four_tricks(self):
        rng = random.Random(405)
        for trump in TRUMPS:
            for lead in LEADS:
                self.check(4, trump, lead, some_deal(rng, 4))

    def test_six_tricks(self):
        for trump, lead, cards, first, played in six_tricks.ALL:
            self.assertEqual(line(6, trump, lead, cards), first[:1] + played, (trump, lead, cards))


class StepByStep(unittest.TestCase):
    """Deals of up to six tricks: the cards are played by the rules, and each is the least that after names."""

    def check(self, k, trump, lead, cards):
        answer = line(k, trump, lead, cards)
        call = (k, trump, lead, cards)
        self.assertEqual(answer[:1], best(*call), call)
        played = answer[1:]
        self.assertEqual(sorted(played), sorted(cards), call)
        game = plain_search.replay(*call, played)
        self.assertIsNotNone(game, call)
        self.assertEqual(game.over, answer[0], call)
        for step, card in enumerate(played):
            self.assertEqual(after(*call, played[:step])[1], card, (call, step))

    def test_any_deals(self):
        rng = random.Random(406)
        for k in range(1, 7):
            for trump in TRUMPS:
                for lead in LEADS:
                    self.check(k, trump, lead, some_deal(rng, k))

    def test_few_suits(self):
        rng = random.Random(407)
        for k in (4, 5, 6):
            for trump in TRUMPS:
                for lead in LEADS:
                    self.check(k, trump, lead, deal_by_suits(rng, k))

    def test_cards_side_by_side(self):
        for k in range(1, 7):
            for trump in (0, 1, 3, NO_TRUMP):
                for lead in LEADS:
                    self.check(k, trump, lead, list(range(4 * k)))
                    self.check(k, trump, lead, list(range(52 - 4 * k, 52)))

    def test_the_order_in_a_hand_does_not_count(self):
        rng = random.Random(408)
        for k in range(2, 7):
            for trump in TRUMPS:
                hands = [rng.sample(range(seat, 52, 4), k) for seat in LEADS]
                answer = line(k, trump, trump % 4, deal(*hands))
                self.assertEqual(line(k, trump, trump % 4, deal(*[sorted(hand) for hand in hands])), answer)


class Refused(WrongDeals, unittest.TestCase):

    def answer(self, k, trump, lead, cards):
        return line(k, trump, lead, cards)


class Calls(OneCall, unittest.TestCase):

    function = staticmethod(line)

    def length(self, call):
        return 1 + 4 * call[0]

    def calls(self):
        rng = random.Random(409)
        for k in range(1, 7):
            for step in range(4):
                yield k, rng.randrange(5), rng.randrange(4), some_deal(rng, k)
        yield 1, 0, 0, [0, 0, 1, 2]
        yield 1, 5, 0, [0, 1, 2, 3]
        yield 0, 0, 0, []


if __name__ == "__main__":
    unittest.main()
