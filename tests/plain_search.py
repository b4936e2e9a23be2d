"""The game as the document tells it, with no short cut but one: what follows a trick is worked out once a deal.

It takes cards by their numbers and tries every card that may be played, so it is slow and easy to check.
"""


def suit(card):
    return card // 13


def height(card):
    return card % 13


def may_be_played(hand, trick):
    """trick: the (seat, card) pairs that lie there."""
    if trick:
        first = suit(trick[0][1])
        of_that_suit = [card for card in hand if suit(card) == first]
        if of_that_suit:
            return sorted(of_that_suit)
    return sorted(hand)


def taker(trick, trump):
    trumps = [(height(card), seat) for seat, card in trick if suit(card) == trump]
    first = suit(trick[0][1])
    followed = [(height(card), seat) for seat, card in trick if suit(card) == first]
    return max(trumps or followed)[1]


class Game:
    """Four hands, the trick that lies there, whose turn it is, and how many tricks that are over 0 and 2 took."""

    def __init__(self, trump, hands, seat, trick=(), over=0, seen=None):
        self.trump = trump
        self.hands = hands
        self.seat = seat
        self.trick = trick
        self.over = over
        self.seen = {} if seen is None else seen

    def allowed(self):
        return may_be_played(self.hands[self.seat], self.trick)

    def played(self, card):
        """The game when the seat whose turn it is has played the card; this one stays as it is."""
        hands = self.hands[:self.seat] + (self.hands[self.seat] - {card},) + self.hands[self.seat + 1:]
        trick = self.trick + ((self.seat, card),)
        if len(trick) < 4:
            return Game(self.trump, hands, (self.seat + 1) % 4, trick, self.over, self.seen)
        winner = taker(trick, self.trump)
        return Game(self.trump, hands, winner, (), self.over + (1 if winner in (0, 2) else 0), self.seen)

    def outcome(self):
        """How many tricks 0 and 2 take in all, those that are over among them."""
        if self.trick:
            return self.wanted(self.outcomes().values())
        key = (self.hands, self.seat)
        if key not in self.seen:
            self.seen[key] = self.wanted(self.outcomes().values()) - self.over if self.hands[self.seat] else 0
        return self.over + self.seen[key]

    def outcomes(self):
        return {card: self.played(card).outcome() for card in self.allowed()}

    def wanted(self, outcomes):
        return max(outcomes) if self.seat in (0, 2) else min(outcomes)


def start(k, trump, lead, cards):
    return Game(trump, tuple(frozenset(cards[k * seat:k * seat + k]) for seat in range(4)), lead)


def replay(k, trump, lead, cards, played):
    """The game when the cards have been played in their order, or None if one of them may not be played."""
    game = start(k, trump, lead, cards)
    for card in played:
        if card not in game.allowed():
            return None
        game = game.played(card)
    return game


def best(k, trump, lead, cards):
    """How many tricks 0 and 2 take."""
    return start(k, trump, lead, cards).outcome()


def after(k, trump, lead, cards, played):
    """What the document asks of after, where the deal is right."""
    game = replay(k, trump, lead, cards, played)
    if game is None:
        return [-1]
    outcomes = game.outcomes()
    if not outcomes:
        return [0] + [255] * 6
    reached = game.wanted(outcomes.values())
    good = [card for card in sorted(outcomes) if outcomes[card] == reached]
    return [reached - game.over] + good + [255] * (6 - len(good))


def line(k, trump, lead, cards):
    """What the document asks of line, where the deal is right."""
    game = start(k, trump, lead, cards)
    answer = [game.outcome()]
    while game.allowed():
        outcomes = game.outcomes()
        reached = game.wanted(outcomes.values())
        answer.append(min(card for card in outcomes if outcomes[card] == reached))
        game = game.played(answer[-1])
    return answer


def taken(k, trump, lead, cards, played):
    """What the document asks of taken, where the deal is right."""
    game = replay(k, trump, lead, cards, played)
    return [-1] if game is None else [game.over, game.seat]
