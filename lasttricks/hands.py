"""The last tricks, when all cards are seen: how many 0 and 2 take, and with which cards.

The search knows no card by its number. What counts is who has which cards in each suit, from the lowest up, so the
cards that are left are written as one text, the order: a digit for the seat that has the card, suit behind suit,
with a fence between two suits. The trump suit stands last; where no suit is trump, a last suit stands empty. A card
is then a place in the order. Deals that differ in numbers alone share one order, and what is found out about it.

By their numbers the cards lie on a table; what lies there is written as an order when the search is asked about it.
"""

SEATS = 4
SUITS = 4
HEIGHTS = 13
MOST_TRICKS = 6
WRONG_PLAY = -1
WRONG_DEAL = -2
NO_CARD = 255
FENCE = "/"


class Table:
    """The cards by their numbers, while they are played one by one."""

    def __init__(self, k, trump, lead, cards):
        self.trump = trump
        self.lead = lead
        self.trick = []
        self.won = 0
        # A card stays in here till its trick is over, since an order is written as it was at the start of a trick.
        self.seat_of = {}
        for dealt, card in enumerate(cards):
            self.seat_of[card] = dealt // k

    def turn(self):
        """Name the seat whose turn it is; when no cards are left, the one that took the last trick."""
        return (self.lead + len(self.trick)) % SEATS

    def cards_allowed(self):
        """List the cards that the seat whose turn it is may play, the least first."""
        seat = self.turn()
        hand = sorted([card for card in self.seat_of if self.seat_of[card] == seat])
        if len(self.trick) == 0:
            return hand
        first_suit = suit_of(self.trick[0])
        following = [card for card in hand if suit_of(card) == first_suit]
        return following if len(following) > 0 else hand

    def play(self, card):
        """Put a card that may be played to the trick."""
        self.trick.append(card)
        if len(self.trick) == SEATS:
            self.end_trick()

    def end_trick(self):
        """Take the four cards away; who takes the trick plays first in the next, and won counts it for 0 and 2."""
        over = self.trick
        self.lead = self.seat_of[winning_card(over, self.trump)]
        if self.lead % 2 == 0:
            self.won += 1
        self.trick = []
        for card in over:
            self.seat_of.pop(card)


class Layout:
    """An order at the start of a trick, with what is asked of it again and again while the trick is played."""

    def __init__(self, order):
        self.order = order
        self.suit_at = suits_by_place(order)
        self.trump_suit = order.count(FENCE)
        self.choices = [places_worth_playing(order, seat) for seat in range(SEATS)]


def best(k, trump, lead, cards):
    """Answer how many of the k tricks 0 and 2 take, or the refusal."""
    if not is_deal(k, trump, lead, cards):
        return [WRONG_DEAL]
    return [most_tricks({}, Table(k, trump, lead, cards))]


def after(k, trump, lead, cards, played):
    """Answer how many of the tricks that aren't over 0 and 2 take, then the cards that keep it so, or the refusal."""
    if not is_deal(k, trump, lead, cards) or len(played) > SEATS * k:
        return [WRONG_DEAL]
    table = Table(k, trump, lead, cards)
    if not play_all(table, played):
        return [WRONG_PLAY]
    known = {}
    tricks = most_tricks(known, table)
    good = [card for card in table.cards_allowed() if is_good(known, table, card, tricks)]
    return [tricks] + good + [NO_CARD] * (MOST_TRICKS - len(good))


def line(k, trump, lead, cards):
    """Answer how many tricks 0 and 2 take, then all cards as they are played, the least that is good each time."""
    if not is_deal(k, trump, lead, cards):
        return [WRONG_DEAL]
    table = Table(k, trump, lead, cards)
    known = {}
    tricks = most_tricks(known, table)
    played = []
    while len(table.seat_of) > 0:
        card = least_good_card(known, table, tricks - table.won)
        table.play(card)
        played.append(card)
    return [tricks] + played


def taken(k, trump, lead, cards, played):
    """Answer how many of the tricks that are over 0 and 2 have taken, then whose turn it is, or the refusal."""
    if not is_deal(k, trump, lead, cards) or len(played) > SEATS * k:
        return [WRONG_DEAL]
    table = Table(k, trump, lead, cards)
    if not play_all(table, played):
        return [WRONG_PLAY]
    return [table.won, table.turn()]


def is_deal(k, trump, lead, cards):
    """Tell whether the numbers stand for a deal that can be played."""
    if k < 1 or k > MOST_TRICKS:
        return False
    if trump < 0 or trump > SUITS:
        return False
    if lead < 0 or lead >= SEATS:
        return False
    if any([card < 0 or card >= SUITS * HEIGHTS for card in cards]):
        return False
    return len(set(cards)) == len(cards)


def play_all(table, played):
    """Play the cards in their order, and tell whether each of them may be played."""
    for card in played:
        if card not in table.cards_allowed():
            return False
        table.play(card)
    return True


def suit_of(card):
    """Name a card's suit."""
    return card // HEIGHTS


def winning_card(trick, trump):
    """Name the card that takes a trick; within one suit the higher card has the higher number."""
    trumps = [card for card in trick if suit_of(card) == trump]
    if len(trumps) > 0:
        return max(trumps)
    first_suit = suit_of(trick[0])
    return max([card for card in trick if suit_of(card) == first_suit])


def most_tricks(known, table):
    """Count the tricks that 0 and 2 take of those that aren't over."""
    tricks = 0
    while table_reaches(known, table, [], tricks + 1):
        tricks += 1
    return tricks


def is_good(known, table, card, tricks):
    """Tell whether a card keeps the outcome for the seat whose turn it is, where tricks is what 0 and 2 take."""
    if table.turn() % 2 == 0:
        return table_reaches(known, table, [card], tricks)
    return not table_reaches(known, table, [card], tricks + 1)


def least_good_card(known, table, tricks):
    """Name the least card that keeps the outcome; when all but one don't, the last one does."""
    allowed = table.cards_allowed()
    for card in allowed[:-1]:
        if is_good(known, table, card, tricks):
            return card
    return allowed[-1]


def table_reaches(known, table, more, need):
    """Tell whether 0 and 2 can take at least need of the tricks that aren't over, when more cards are played."""
    if need <= 0:
        return True
    if need > len(table.seat_of) // SEATS:
        return False
    cards = cards_by_place(table)
    places = [cards.index(card) for card in table.trick + more]
    return trick_reaches(known, Layout(order_of(table, cards)), table.lead, places, need)


def cards_by_place(table):
    """List the cards in the places that they have in the order; no card stands where a fence does."""
    plain_suits = [suit for suit in range(SUITS) if suit != table.trump]
    cards = []
    for suit in plain_suits:
        cards.extend(cards_in_suit(table, suit))
        cards.append(NO_CARD)
    return cards + cards_in_suit(table, table.trump)


def cards_in_suit(table, suit):
    """List the cards of a suit, the lowest first; nobody has one of the suit 4."""
    first = suit * HEIGHTS
    return [card for card in range(first, first + HEIGHTS) if card in table.seat_of]


def order_of(table, cards):
    """Write the cards that stand in their places as an order."""
    return "".join([FENCE if card == NO_CARD else str(table.seat_of[card]) for card in cards])


def reaches(known, order, lead, need):
    """Tell whether 0 and 2 can take at least need of the tricks in the order; known keeps what was found before."""
    if need <= 0:
        return True
    if need > tricks_in(order):
        return False
    key = (order, lead, need)
    if key not in known:
        known[key] = trick_reaches(known, Layout(order), lead, [], need)
    return known[key]


def tricks_in(order):
    """Count the tricks that the cards of an order make."""
    return (len(order) - order.count(FENCE)) // SEATS


def trick_reaches(known, layout, lead, played, need):
    """Tell the same as reaches, from the middle of a trick: the places played lie there already."""
    if len(played) == SEATS:
        return rest_reaches(known, layout, played, need)
    seat = (lead + len(played)) % SEATS
    wanted = seat % 2 == 0
    for place in places_allowed(layout, seat, played):
        if trick_reaches(known, layout, lead, played + [place], need) == wanted:
            return wanted
    return not wanted


def rest_reaches(known, layout, played, need):
    """Tell the same as reaches, when the trick's four cards lie there."""
    taker = taker_of(layout, played)
    rest = order_without(layout.order, played)
    if taker % 2 == 0:
        return reaches(known, rest, taker, need - 1)
    return reaches(known, rest, taker, need)


def taker_of(layout, played):
    """Name the seat that takes a trick; trump stands last in the order, so the highest place that counts wins."""
    first_suit = layout.suit_at[played[0]]
    counting = [place for place in played if layout.suit_at[place] in (first_suit, layout.trump_suit)]
    return int(layout.order[max(counting)])


def order_without(order, played):
    """Take the places of a whole trick out of an order."""
    kept = ""
    start = 0
    for place in sorted(played):
        kept += order[start:place]
        start = place + 1
    return kept + order[start:]


def places_allowed(layout, seat, played):
    """List the places that a seat may play: those of the suit played first, if it has one."""
    choices = layout.choices[seat]
    if len(played) == 0:
        return choices
    first_suit = layout.suit_at[played[0]]
    following = [place for place in choices if layout.suit_at[place] == first_suit]
    return following if len(following) > 0 else choices


def places_worth_playing(order, seat):
    """List a seat's places, the highest first, with one alone of those that stand side by side.

    Between cards side by side no other seat's card lies: each of them takes the same tricks and leaves the same order.
    """
    digit = str(seat)
    places = [place for place in range(len(order)) if order[place] == digit]
    return [place for place in reversed(places) if place == 0 or order[place - 1] != digit]


def suits_by_place(order):
    """Tell for each place of an order how many suits end ahead of it."""
    suits = []
    suit = 0
    for sign in order:
        suits.append(suit)
        if sign == FENCE:
            suit += 1
    return suits
