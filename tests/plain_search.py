"""The game as the document tells it, with no short cut but one: what follows a trick is worked out once a deal.

It takes cards by their numbers and tries every card that may be played, so it is slow and easy to check.
"""

from functools import lru_cache


def suit(card):
    return card // 13


def height(card):
    return card % 13


def may_be_played(hand, trick):
    """trick: the (seat, card) pairs that lie there."""
    if trick:
        first = suit(trick[0][1])
        of_that_suit = [card for card in hand if suit(card) == first]
        if of_that_suit:
            return of_that_suit
    return sorted(hand)


def taker(trick, trump):
    trumps = [(height(card), seat) for seat, card in trick if suit(card) == trump]
    first = suit(trick[0][1])
    followed = [(height(card), seat) for seat, card in trick if suit(card) == first]
    return max(trumps or followed)[1]


def best(k, trump, lead, cards):
    """How many tricks 0 and 2 take."""

    @lru_cache(maxsize=None)
    def from_trick(hands, first):
        if not hands[0]:
            return 0
        return from_card(hands, first, ())

    def from_card(hands, seat, trick):
        if len(trick) == 4:
            winner = taker(trick, trump)
            return (1 if winner in (0, 2) else 0) + from_trick(hands, winner)
        outcomes = []
        for card in may_be_played(hands[seat], trick):
            left = hands[:seat] + (hands[seat] - {card},) + hands[seat + 1:]
            outcomes.append(from_card(left, (seat + 1) % 4, trick + ((seat, card),)))
        return max(outcomes) if seat in (0, 2) else min(outcomes)

    hands = tuple(frozenset(cards[k * seat:k * seat + k]) for seat in range(4))
    return from_trick(hands, lead)
