"""Deals for the tests, and lists that tell when they are changed."""

import plain_search

LOWEST = -2147483648
HIGHEST = 2147483647
NO_TRUMP = 4
TRUMPS = range(5)
LEADS = range(4)


def deal(*hands):
    """The cards of four hands, as the program takes them."""
    return [card for hand in hands for card in hand]


def turned(hands, steps):
    """The same hands with each seat moved on by some steps."""
    return [hands[(seat - steps) % 4] for seat in range(4)]


def hands_of(k, cards):
    return [cards[k * seat:k * seat + k] for seat in range(4)]


def some_deal(rng, k, pool=range(52)):
    return rng.sample(list(pool), 4 * k)


def deal_by_suits(rng, k):
    """A deal in which a seat has few suits, so that the rule of suit bars few cards."""
    while True:
        left = list(range(52))
        cards = []
        for seat in range(4):
            suits = rng.sample(range(4), rng.choice([1, 1, 2, 3]))
            hers = [card for card in left if card // 13 in suits]
            if len(hers) < k:
                break
            cards += rng.sample(hers, k)
            left = [card for card in left if card not in cards]
        if len(cards) == 4 * k:
            return cards


def random_play(rng, k, trump, lead, cards):
    """All cards in some order in which they may be played."""
    game = plain_search.start(k, trump, lead, cards)
    played = []
    while game.allowed():
        played.append(rng.choice(game.allowed()))
        game = game.played(played[-1])
    return played


class LeftAlone(list):
    """A list that fails when it is changed, be it for a while."""

    def changed(self, *args, **kwargs):
        raise AssertionError("what was handed in was changed")

    append = extend = insert = pop = remove = clear = sort = reverse = changed
    __setitem__ = __delitem__ = __iadd__ = __imul__ = changed
