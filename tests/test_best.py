"""Point 1 of the document, and what it says ahead of the points as far as best goes."""

import random
import unittest

import plain_search
import six_tricks
from deals import LEADS, NO_TRUMP, TRUMPS, deal, deal_by_suits, hands_of, some_deal, turned
from lasttricks.hands import best
from one_call import OneCall
from wrong_calls import WrongDeals


class OneTrick(unittest.TestCase):
    """With k = 1 nobody has a choice: who takes the trick is all that counts."""

    def check_taker(self, trump, lead, cards, taker):
        expected = 1 if taker in (0, 2) else 0
        self.assertEqual(best(1, trump, lead, cards), [expected], (trump, lead, cards))

    def test_highest_of_the_suit_played_first(self):
        for lead in LEADS:
            for taker in LEADS:
                cards = [16, 17, 18, 19]
                cards[taker] = 24
                for trump in TRUMPS:
                    self.check_taker(trump, lead, cards, taker)

    def test_without_trump_the_leader_of_a_lone_suit_takes_it(self):
        cards = [0, 51, 38, 25]
        for lead in LEADS:
            self.check_taker(NO_TRUMP, lead, cards, lead)

    def test_a_card_of_a_third_suit_never_takes_it(self):
        for trump, high in ((NO_TRUMP, 51), (2, 51), (2, 12)):
            for lead in LEADS:
                cards = turned([[13], [high], [14], [high - 1]], lead)
                self.check_taker(trump, lead, deal(*cards), (lead + 2) % 4)

    def test_the_lowest_trump_takes_a_trick_of_another_suit(self):
        for trump in range(4):
            other = (trump + 1) % 4 * 13
            for lead in LEADS:
                for taker in LEADS:
                    if taker != lead:
                        cards = [other + 9, other + 10, other + 11, other + 12]
                        cards[taker] = trump * 13
                        self.check_taker(trump, lead, cards, taker)

    def test_the_highest_of_several_trumps_takes_it(self):
        for trump in range(4):
            first = trump * 13
            other = (trump + 3) % 4 * 13 + 12
            for lead in LEADS:
                cards = turned([[other], [first + 1], [first + 12], [first]], lead)
                self.check_taker(trump, lead, deal(*cards), (lead + 2) % 4)
                cards = turned([[other], [first + 1], [first], [other - 1]], lead)
                self.check_taker(trump, lead, deal(*cards), (lead + 1) % 4)

    def test_a_trump_played_first_asks_for_trump(self):
        for trump in range(4):
            other = (trump + 2) % 4 * 13 + 12
            for lead in LEADS:
                cards = turned([[trump * 13], [other], [other - 1], [other - 2]], lead)
                self.check_taker(trump, lead, deal(*cards), lead)

    def test_first_and_last_card_of_each_suit(self):
        for first, last in ((0, 12), (13, 25), (26, 38), (39, 51)):
            far = [(first + 26) % 52, (first + 27) % 52]
            for lead in LEADS:
                one_suit = turned([[first], [last], [far[0]], [far[1]]], lead)
                self.check_taker(NO_TRUMP, lead, deal(*one_suit), (lead + 1) % 4)

    def test_neighbours_across_the_end_of_a_suit(self):
        for last, first in ((12, 13), (25, 26), (38, 39), (51, 0)):
            far = [(first + 15) % 52, (first + 28) % 52]
            for lead in LEADS:
                low_first = turned([[last], [first], [far[0]], [far[1]]], lead)
                high_first = turned([[first], [last], [far[0]], [far[1]]], lead)
                self.check_taker(NO_TRUMP, lead, deal(*low_first), lead)
                self.check_taker(NO_TRUMP, lead, deal(*high_first), lead)
                self.check_taker(first // 13, lead, deal(*low_first), (lead + 1) % 4)
                self.check_taker(last // 13, lead, deal(*high_first), (lead + 1) % 4)


class WorkedByHand(unittest.TestCase):

    def test_who_has_the_suit_has_to_play_it(self):
        # 1 and 3 may not take the first trick with their trumps, and take the second.
        self.assertEqual(best(2, 3, 0, deal([12, 11], [0, 51], [13, 14], [1, 50])), [1])
        # Here 0 and 2 hold those trumps.
        self.assertEqual(best(2, 3, 1, deal([1, 50], [12, 11], [0, 51], [13, 14])), [1])

    def test_who_has_not_the_suit_need_not_play_trump(self):
        # 2 leads its high card on; 0 keeps its trump for the second trick, which 1 would take else.
        self.assertEqual(best(2, 3, 2, deal([13, 39], [1, 25], [12, 14], [2, 26])), [2])

    def test_who_took_a_trick_plays_first_in_the_next(self):
        # 1 takes the first trick by force, then plays a card that no other beats.
        self.assertEqual(best(2, NO_TRUMP, 0, deal([0, 1], [12, 38], [13, 14], [26, 27])), [0])
        self.assertEqual(best(2, NO_TRUMP, 3, deal([12, 38], [13, 14], [26, 27], [0, 1])), [2])
        self.assertEqual(best(2, NO_TRUMP, 1, deal([26, 27], [0, 1], [12, 38], [13, 14])), [2])
        self.assertEqual(best(2, NO_TRUMP, 2, deal([13, 14], [26, 27], [0, 1], [12, 38])), [0])

    def test_each_side_plays_for_itself(self):
        # Who leads takes one trick if it plays its high card first, and none if it plays the low one first.
        hands = [[12, 13], [14, 15], [26, 27], [39, 40]]
        for lead in LEADS:
            self.assertEqual(best(2, NO_TRUMP, lead, deal(*turned(hands, lead))), [1])

    def test_partners_do_not_take_from_one_another(self):
        # 0 plays low, 2 takes with the highest card and plays the other suit, where 0 has the highest.
        self.assertEqual(best(2, NO_TRUMP, 0, deal([0, 25], [1, 14], [12, 13], [2, 15])), [2])

    def test_last_to_play_beats_as_cheaply_as_it_can(self):
        # 3 has 3 and 12 of the suit: it takes with 3, and with 12 the next time.
        self.assertEqual(best(2, NO_TRUMP, 0, deal([2, 11], [13, 14], [0, 1], [3, 12])), [0])
        # Seen from the other side.
        self.assertEqual(best(2, NO_TRUMP, 1, deal([3, 12], [2, 11], [13, 14], [0, 1])), [2])

    def test_the_turn_goes_round_from_the_lead(self):
        # The leader's partner has 12 and 10: it takes two tricks if who has 11 plays ahead of it, else one.
        for lead in LEADS:
            ahead = turned([[0, 1], [11, 2], [12, 10], [3, 4]], lead)
            behind = turned([[0, 1], [3, 4], [12, 10], [11, 2]], lead)
            self.assertEqual(best(2, NO_TRUMP, lead, deal(*ahead)), [2 if lead in (0, 2) else 0])
            self.assertEqual(best(2, NO_TRUMP, lead, deal(*behind)), [1])

    def test_all_of_the_highest_trumps(self):
        for k in range(1, 7):
            for trump in range(4):
                for lead in LEADS:
                    self.check_strong_hand(k, trump, lead)

    def check_strong_hand(self, k, trump, lead):
        trumps = [trump * 13 + 12 - step for step in range(k)]
        others = [card for card in range(52) if card // 13 != trump]
        for strong in LEADS:
            hands = [others[k * step:k * step + k] for step in range(3)]
            hands.insert(strong, trumps)
            expected = k if strong in (0, 2) else 0
            self.assertEqual(best(k, trump, lead, deal(*hands)), [expected])

    def test_a_suit_each_and_no_trump(self):
        for k in range(1, 7):
            hands = [[suit * 13 + step for step in range(k)] for suit in (2, 0, 3, 1)]
            for lead in LEADS:
                expected = k if lead in (0, 2) else 0
                self.assertEqual(best(k, NO_TRUMP, lead, deal(*hands)), [expected])

    def test_a_suit_each_and_one_of_them_trump(self):
        for k in range(1, 7):
            hands = [[suit * 13 + step for step in range(k)] for suit in (2, 0, 3, 1)]
            for lead in LEADS:
                for trump, expected in ((2, k), (0, 0), (3, k), (1, 0)):
                    self.assertEqual(best(k, trump, lead, deal(*hands)), [expected])


class AgainstPlainSearch(unittest.TestCase):

    def check(self, k, trump, lead, cards):
        expected = plain_search.best(k, trump, lead, cards)
        self.assertEqual(best(k, trump, lead, cards), [expected], (k, trump, lead, cards))

    def check_all_calls(self, k, cards):
        for trump in TRUMPS:
            for lead in LEADS:
                self.check(k, trump, lead, cards)

    def test_one_to_three_tricks(self):
        rng = random.Random(101)
        for k, deals in ((1, 100), (2, 100), (3, 40)):
            for step in range(deals):
                self.check_all_calls(k, some_deal(rng, k))

    def test_few_suits(self):
        rng = random.Random(102)
        for k, deals in ((1, 30), (2, 60), (3, 20)):
            for step in range(deals):
                self.check_all_calls(k, deal_by_suits(rng, k))

    def test_one_suit_alone(self):
        rng = random.Random(103)
        for first in (0, 13, 26, 39):
            for k in (1, 2, 3):
                self.check_all_calls(k, some_deal(rng, k, range(first, first + 13)))

    def test_two_suits(self):
        rng = random.Random(104)
        for suits in ((0, 1), (0, 3), (1, 2), (2, 3)):
            pool = [card for card in range(52) if card // 13 in suits]
            for k in (1, 2, 3):
                for step in range(3):
                    self.check_all_calls(k, some_deal(rng, k, pool))

    def test_first_and_last_cards_of_the_suits(self):
        rng = random.Random(105)
        edges = [0, 12, 13, 25, 26, 38, 39, 51]
        for k in (1, 2):
            for step in range(20):
                self.check_all_calls(k, some_deal(rng, k, edges))

    def test_four_tricks(self):
        rng = random.Random(106)
        for step in range(60):
            self.check(4, step % 5, rng.randrange(4), some_deal(rng, 4))
        for step in range(15):
            self.check(4, step % 5, rng.randrange(4), deal_by_suits(rng, 4))

    def test_five_tricks(self):
        rng = random.Random(107)
        for trump in TRUMPS:
            self.check(5, trump, rng.randrange(4), some_deal(rng, 5))

    def test_six_tricks(self):
        for trump, lead, cards, first, played in six_tricks.ALL:
            self.assertEqual(best(6, trump, lead, cards), first[:1], (trump, lead, cards))


class ManyTricks(unittest.TestCase):
    """Any deals of five and six tricks, held against the same deal with seats or suits changed about."""

    def check_same_game(self, k, trump, lead, cards):
        answer = best(k, trump, lead, cards)
        self.assertTrue(0 <= answer[0] <= k)
        hands = hands_of(k, cards)
        self.assertEqual(best(k, trump, (lead + 1) % 4, deal(*turned(hands, 1))), [k - answer[0]])
        self.assertEqual(best(k, trump, (lead + 2) % 4, deal(*turned(hands, 2))), answer)
        other_suits = [(card + 13) % 52 for card in cards]
        other_trump = trump if trump == NO_TRUMP else (trump + 1) % 4
        self.assertEqual(best(k, other_trump, lead, other_suits), answer)
        self.assertEqual(best(k, trump, lead, deal(*[sorted(hand) for hand in hands])), answer)

    def test_seats_suits_and_order_of_the_cards(self):
        rng = random.Random(108)
        for k in (5, 6):
            for trump in TRUMPS:
                for lead in LEADS:
                    self.check_same_game(k, trump, lead, some_deal(rng, k))

    def test_few_cards_barred(self):
        rng = random.Random(109)
        for trump in TRUMPS:
            for step in range(4):
                self.check_same_game(6, trump, step, deal_by_suits(rng, 6))


class Refused(WrongDeals, unittest.TestCase):

    def answer(self, k, trump, lead, cards):
        return best(k, trump, lead, cards)

    def test_what_is_just_within_is_answered(self):
        for k in (1, 6):
            for trump in (0, 4):
                for lead in (0, 3):
                    for cards in (list(range(4 * k)), list(range(52 - 4 * k, 52))):
                        answer = best(k, trump, lead, cards)
                        self.assertTrue(0 <= answer[0] <= k)


class Calls(OneCall, unittest.TestCase):

    function = staticmethod(best)

    def length(self, call):
        return 1

    def calls(self):
        rng = random.Random(110)
        for k in range(1, 7):
            for step in range(4):
                yield k, rng.randrange(5), rng.randrange(4), some_deal(rng, k)
        yield 1, 0, 0, [0, 0, 1, 2]
        yield 1, 5, 0, [0, 1, 2, 3]
        yield 0, 0, 0, []

    def test_same_cards_with_another_trump_or_lead(self):
        cards = [0, 13, 26, 39]
        for lead in LEADS:
            for trump in TRUMPS:
                taker = lead if trump == NO_TRUMP else trump
                self.assertEqual(best(1, trump, lead, cards), [1 if taker in (0, 2) else 0])


if __name__ == "__main__":
    unittest.main()
