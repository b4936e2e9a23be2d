"""best, after, line and taken held against one another, and the interface that the document names."""

import inspect
import random
import unittest

import six_tricks
from deals import LEADS, NO_TRUMP, TRUMPS, deal_by_suits, random_play, some_deal
from lasttricks import hands
from lasttricks.hands import after, best, line, taken


class Together(unittest.TestCase):

    def check_line(self, k, trump, lead, cards):
        """Along a line nothing is lost: what is taken and what is still to come make up best's number at every step."""
        call = (k, trump, lead, cards)
        tricks = best(*call)[0]
        answer = line(*call)
        self.assertEqual(answer[0], tricks, call)
        played = answer[1:]
        self.assertEqual(taken(*call, []), [0, lead], call)
        for step in range(4 * k + 1):
            self.check_step(call, played, step, tricks)
        self.assertEqual(taken(*call, played)[0], tricks, call)

    def check_step(self, call, played, step, tricks):
        over, turn = taken(*call, played[:step])
        to_come = after(*call, played[:step])
        self.assertEqual(over + to_come[0], tricks, (call, step))
        if step == len(played):
            self.assertEqual(to_come, [0] + [255] * 6, call)
        else:
            self.assertEqual(to_come[1], played[step], (call, step))
            self.assertEqual(self.seat_of(call, played[step]), turn, (call, step))

    def seat_of(self, call, card):
        return call[3].index(card) // call[0]

    def check_any_play(self, rng, k, trump, lead, cards):
        """A card that after names keeps the outcome, any other loses by it: 0 and 2 fewer tricks, 1 and 3 more."""
        call = (k, trump, lead, cards)
        whole = random_play(rng, *call)
        total = best(*call)[0]
        for step, card in enumerate(whole):
            turn = taken(*call, whole[:step])[1]
            good = after(*call, whole[:step])[1:]
            ahead = whole[:step + 1]
            total_now = taken(*call, ahead)[0] + after(*call, ahead)[0]
            if card in good:
                self.assertEqual(total_now, total, (call, ahead))
            elif turn in (0, 2):
                self.assertLess(total_now, total, (call, ahead))
            else:
                self.assertGreater(total_now, total, (call, ahead))
            total = total_now

    def test_along_lines(self):
        rng = random.Random(601)
        for k in range(1, 7):
            for trump in TRUMPS:
                for lead in LEADS:
                    self.check_line(k, trump, lead, some_deal(rng, k))

    def test_along_lines_with_few_suits(self):
        rng = random.Random(602)
        for k in range(1, 7):
            for trump in TRUMPS:
                self.check_line(k, trump, rng.randrange(4), deal_by_suits(rng, k))

    def test_along_lines_of_known_deals(self):
        for trump, lead, cards, first, played in six_tricks.MIXED_HANDS:
            self.check_line(6, trump, lead, cards)

    def test_along_any_play(self):
        rng = random.Random(603)
        for k in range(1, 7):
            for trump in TRUMPS:
                for lead in LEADS:
                    self.check_any_play(rng, k, trump, lead, some_deal(rng, k))

    def test_refused_alike(self):
        for call in ((0, 0, 0, []), (7, 0, 0, []), (1, 5, 0, [0, 1, 2, 3]), (1, 0, 4, [0, 1, 2, 3]),
                     (1, 0, 0, [0, 1, 2, 52]), (1, 0, 0, [0, 1, 2, 0])):
            self.assertEqual([best(*call), line(*call), after(*call, []), taken(*call, [])], [[-2]] * 4, call)
        for played in ([1], [0, 0], [0, 1, 2, 255]):
            call = (1, NO_TRUMP, 0, [0, 1, 2, 3], played)
            self.assertEqual([after(*call), taken(*call)], [[-1]] * 2, call)


class Interface(unittest.TestCase):

    def test_names_and_arguments(self):
        self.assertEqual(list(inspect.signature(hands.best).parameters), ["k", "trump", "lead", "cards"])
        self.assertEqual(list(inspect.signature(hands.after).parameters), ["k", "trump", "lead", "cards", "played"])
        self.assertEqual(list(inspect.signature(hands.line).parameters), ["k", "trump", "lead", "cards"])
        self.assertEqual(list(inspect.signature(hands.taken).parameters), ["k", "trump", "lead", "cards", "played"])

    def test_the_calls_mix_without_leaving_a_trace(self):
        rng = random.Random(604)
        for k in (2, 4, 6):
            cards = some_deal(rng, k)
            kept = list(cards)
            for trump in TRUMPS:
                played = random_play(rng, k, trump, 0, cards)[:3]
                asked = [lambda: best(k, trump, 0, cards), lambda: after(k, trump, 0, cards, played),
                         lambda: line(k, trump, 0, cards), lambda: taken(k, trump, 0, cards, played)]
                first = [ask() for ask in asked]
                self.assertEqual([ask() for ask in reversed(asked)], first[::-1])
                self.assertEqual(cards, kept)


if __name__ == "__main__":
    unittest.main()
