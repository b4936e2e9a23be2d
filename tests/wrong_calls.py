"""Calls that are refused, for every function that refuses them. A test class says in answer() what it calls."""

import random

import plain_search
from deals import HIGHEST, LEADS, LOWEST, NO_TRUMP, TRUMPS, deal, deal_by_suits, random_play, some_deal


class WrongDeals:
    """answer(k, trump, lead, cards) has to be [-2]."""

    def check_deal(self, k, trump, lead, cards):
        self.assertEqual(self.answer(k, trump, lead, cards), [-2], (k, trump, lead, cards))

    def test_k(self):
        for k in (0, 7, 8, -1, LOWEST, HIGHEST):
            for trump in TRUMPS:
                for lead in LEADS:
                    self.check_deal(k, trump, lead, [])

    def test_trump(self):
        for k in range(1, 7):
            for trump in (-1, 5, 6, LOWEST, HIGHEST):
                for lead in LEADS:
                    self.check_deal(k, trump, lead, list(range(4 * k)))

    def test_lead(self):
        for k in range(1, 7):
            for lead in (-1, 4, 5, LOWEST, HIGHEST):
                for trump in TRUMPS:
                    self.check_deal(k, trump, lead, list(range(4 * k)))

    def test_a_card_that_there_is_not(self):
        for card in range(52, 256):
            for place in range(4):
                cards = [0, 1, 2, 3]
                cards[place] = card
                self.check_deal(1, NO_TRUMP, 0, cards)
        for k in range(1, 7):
            for place in range(4 * k):
                for card in (52, 64, 255):
                    cards = list(range(4 * k))
                    cards[place] = card
                    self.check_deal(k, 0, 3, cards)

    def test_two_cards_alike(self):
        for k in range(1, 7):
            for one in range(4 * k):
                for other in range(one):
                    cards = list(range(51, 51 - 4 * k, -1))
                    cards[one] = cards[other]
                    self.check_deal(k, 1, 2, cards)

    def test_all_cards_alike(self):
        for k in range(1, 7):
            for card in (0, 51):
                self.check_deal(k, NO_TRUMP, 0, [card] * (4 * k))

    def test_several_at_once(self):
        self.check_deal(0, 5, 4, [])
        self.check_deal(7, -1, -1, [])
        self.check_deal(LOWEST, HIGHEST, LOWEST, [])
        self.check_deal(1, 5, 4, [0, 1, 2, 3])
        self.check_deal(1, -1, 0, [52, 52, 255, 255])
        self.check_deal(1, 0, 4, [0, 0, 1, 2])
        self.check_deal(2, 5, 4, [255] * 8)


class WrongPlays(WrongDeals):
    """answer_played(k, trump, lead, cards, played) has to be [-1] where a card may not be played, else [-2]."""

    def answer(self, k, trump, lead, cards):
        return self.answer_played(k, trump, lead, cards, [])

    def check_play(self, k, trump, lead, cards, played):
        self.assertEqual(self.answer_played(k, trump, lead, cards, played), [-1], (k, trump, lead, cards, played))

    def check_too_many(self, k, trump, lead, cards, played):
        self.assertEqual(self.answer_played(k, trump, lead, cards, played), [-2], (k, trump, lead, cards, played))

    def test_another_seats_card(self):
        cards = [0, 1, 2, 3]
        for lead in LEADS:
            for wrong in range(1, 4):
                self.check_play(1, NO_TRUMP, lead, cards, [cards[(lead + wrong) % 4]])
        # In the middle, and at the last card.
        self.check_play(1, NO_TRUMP, 0, cards, [0, 2])
        self.check_play(1, NO_TRUMP, 0, cards, [0, 1, 3])
        self.check_play(1, NO_TRUMP, 3, cards, [3, 0, 2])
        # 1 took the first trick, so 0 may not go on.
        cards = deal([0, 13], [12, 14], [1, 15], [2, 16])
        self.check_play(2, NO_TRUMP, 0, cards, [0, 12, 1, 2, 13])
        self.check_play(2, NO_TRUMP, 0, cards, [0, 12, 1, 2, 14, 16])
        self.check_play(2, NO_TRUMP, 0, cards, [0, 12, 1, 2, 14, 15, 13])

    def test_nobodys_card(self):
        cards = [0, 13, 26, 51]
        for ahead in range(4):
            for wrong in (1, 12, 14, 25, 27, 50):
                self.check_play(1, 3, 0, cards, cards[:ahead] + [wrong])

    def test_a_number_that_is_no_card(self):
        cards = [0, 13, 26, 51]
        for ahead in range(4):
            for wrong in range(52, 256):
                self.check_play(1, 3, 0, cards, cards[:ahead] + [wrong])

    def test_a_card_played_a_second_time(self):
        self.check_play(1, NO_TRUMP, 0, [0, 1, 2, 3], [0, 0])
        self.check_play(1, NO_TRUMP, 0, [0, 1, 2, 3], [0, 1, 2, 2])
        self.check_play(1, NO_TRUMP, 0, [0, 1, 2, 3], [0, 1, 2, 0])
        # 0 took the first trick with 12 and has its turn again.
        cards = deal([12, 13], [0, 14], [1, 15], [2, 16])
        self.check_play(2, NO_TRUMP, 0, cards, [12, 0, 1, 2, 12])
        self.check_play(2, NO_TRUMP, 0, cards, [12, 0, 1, 2, 13, 0])
        self.check_play(2, NO_TRUMP, 0, cards, [12, 0, 1, 2, 13, 14, 15, 2])

    def test_who_has_the_suit_may_play_no_other(self):
        cards = deal([11, 0], [12, 51], [1, 50], [2, 49])
        for trump in TRUMPS:
            self.check_play(2, trump, 0, cards, [0, 51])
            self.check_play(2, trump, 0, cards, [0, 12, 50])
            self.check_play(2, trump, 0, cards, [0, 12, 1, 49])
            self.check_play(2, trump, 2, cards, [50, 2])
            self.check_play(2, trump, 2, cards, [50, 49, 11, 12])
        # The suit played first in this trick counts, not the one of the trick ahead of it.
        cards = deal([12, 24, 25], [0, 1, 13], [2, 3, 14], [4, 5, 15])
        self.check_play(3, NO_TRUMP, 0, cards, [12, 0, 2, 4, 24, 1])
        self.check_play(3, NO_TRUMP, 0, cards, [12, 0, 2, 4, 24, 13, 3])
        self.check_play(3, NO_TRUMP, 0, cards, [12, 0, 2, 4, 24, 13, 14, 5])

    def test_what_comes_behind_a_wrong_card_mends_nothing(self):
        self.check_play(1, NO_TRUMP, 0, [0, 1, 2, 3], [1, 0, 2, 3])
        self.check_play(1, NO_TRUMP, 0, [0, 1, 2, 3], [255, 1, 2, 3])
        self.check_play(1, NO_TRUMP, 0, [0, 1, 2, 3], [3, 2, 1, 0])
        self.check_play(6, NO_TRUMP, 0, list(range(24)), [255] * 24)
        self.check_play(6, NO_TRUMP, 0, list(range(24)), list(range(24)))

    def test_every_number_at_every_step(self):
        rng = random.Random(201)
        for k in range(1, 7):
            for cards in (some_deal(rng, k), deal_by_suits(rng, k)):
                self.check_every_step(rng, k, rng.randrange(5), rng.randrange(4), cards)

    def check_every_step(self, rng, k, trump, lead, cards):
        whole = random_play(rng, k, trump, lead, cards)
        for ahead in range(4 * k):
            allowed = plain_search.replay(k, trump, lead, cards, whole[:ahead]).allowed()
            for wrong in list(range(54)) + [254, 255]:
                if wrong not in allowed:
                    self.check_play(k, trump, lead, cards, whole[:ahead] + [wrong])
                    self.check_play(k, trump, lead, cards, whole[:ahead] + [wrong] + whole[ahead + 1:])

    def test_more_than_all_cards(self):
        rng = random.Random(202)
        for k in range(1, 7):
            cards = some_deal(rng, k)
            for trump in TRUMPS:
                for lead in LEADS:
                    whole = random_play(rng, k, trump, lead, cards)
                    for length in (4 * k + 1, 25):
                        for more in (whole[0], whole[-1], 0, 51, 255):
                            self.check_too_many(k, trump, lead, cards, whole + [more] * (length - 4 * k))

    def test_more_than_all_cards_and_none_of_them_right(self):
        for k in range(1, 7):
            for length in (4 * k + 1, 25):
                for wrong in (0, 51, 52, 255):
                    self.check_too_many(k, NO_TRUMP, 0, list(range(4 * k)), [wrong] * length)

    def test_a_wrong_deal_comes_before_a_wrong_play(self):
        for played in ([], [0], [1], [0, 1, 2, 3], [255], [0, 0, 0, 0], [1, 1, 1, 1, 1], [255] * 25):
            self.check_too_many(1, 5, 0, [0, 1, 2, 3], played)
            self.check_too_many(1, -1, 0, [0, 1, 2, 3], played)
            self.check_too_many(1, 0, 4, [0, 1, 2, 3], played)
            self.check_too_many(1, 0, -1, [0, 1, 2, 3], played)
            self.check_too_many(1, 0, 0, [0, 1, 2, 2], played)
            self.check_too_many(1, 0, 0, [0, 1, 2, 52], played)
            self.check_too_many(1, 0, 0, [0, 1, 2, 255], played)
