"""How many of the last tricks 0 and 2 take, when all cards are seen.

The search knows no card by its number. What counts is who has which cards in each suit, from the lowest up, so the
cards that are left are written as one text, the order: a digit for the seat that has the card, suit behind suit,
with a fence between two suits. The trump suit stands last; where no suit is trump, a last suit stands empty. A card
is then a place in the order. Deals that differ in numbers alone share one order, and what is found out about it.
"""

SEATS = 4
SUITS = 4
HEIGHTS = 13
MOST_TRICKS = 6
WRONG_DEAL = -2
FENCE = "/"


class Layout:
    """An order at the start of a trick, with what is asked of it again and again while the trick is played."""

    def __init__(self, order):
        self.order = order
        self.suit_at = suits_by_place(order)
        self.trump_suit = order.count(FENCE)
        self.choices = [places_worth_playing(order, seat) for seat in range(SEATS)]


def best(k, trump, lead, cards):
    """Answer how many of the k tricks 0 and 2 take, or the refusal."""
    if not is_deal(k, trump, lead, cards):
        return [WRONG_DEAL]
    return [most_tricks({}, order_of(k, trump, cards), lead)]


def is_deal(k, trump, lead, cards):
    """Tell whether the numbers stand for a deal that can be played."""
    if k < 1 or k > MOST_TRICKS:
        return False
    if trump < 0 or trump > SUITS:
        return False
    if lead < 0 or lead >= SEATS:
        return False
    if any([card < 0 or card >= SUITS * HEIGHTS for card in cards]):
        return False
    return len(set(cards)) == len(cards)


def order_of(k, trump, cards):
    """Write the cards as an order."""
    seat_of = {}
    for dealt, card in enumerate(cards):
        seat_of[card] = dealt // k
    plain_suits = [suit for suit in range(SUITS) if suit != trump]
    return FENCE.join([seats_in_suit(seat_of, suit) for suit in plain_suits + [trump]])


def seats_in_suit(seat_of, suit):
    """Write who has the cards of a suit, from the lowest card up; nobody has one of the suit 4."""
    first = suit * HEIGHTS
    return "".join([str(seat_of[card]) for card in range(first, first + HEIGHTS) if card in seat_of])


def most_tricks(known, order, lead):
    """Count the tricks that 0 and 2 take of those in the order."""
    tricks = 0
    while reaches(known, order, lead, tricks + 1):
        tricks += 1
    return tricks


def reaches(known, order, lead, need):
    """Tell whether 0 and 2 can take at least need of the tricks in the order; known keeps what was found before."""
    if need <= 0:
        return True
    if need > tricks_in(order):
        return False
    key = (order, lead, need)
    if key not in known:
        known[key] = trick_reaches(known, Layout(order), lead, [], need)
    return known[key]


def tricks_in(order):
    """Count the tricks that the cards of an order make."""
    return (len(order) - order.count(FENCE)) // SEATS


def trick_reaches(known, layout, lead, played, need):
    """Tell the same as reaches, from the middle of a trick: the places played lie there already."""
    if len(played) == SEATS:
        return rest_reaches(known, layout, played, need)
    seat = (lead + len(played)) % SEATS
    wanted = seat % 2 == 0
    for place in places_allowed(layout, seat, played):
        if trick_reaches(known, layout, lead, played + [place], need) == wanted:
            return wanted
    return not wanted


def rest_reaches(known, layout, played, need):
    """Tell the same as reaches, when the trick's four cards lie there."""
    taker = taker_of(layout, played)
    rest = order_without(layout.order, played)
    if taker % 2 == 0:
        return reaches(known, rest, taker, need - 1)
    return reaches(known, rest, taker, need)


def taker_of(layout, played):
    """Name the seat that takes a trick; trump stands last in the order, so the highest place that counts wins."""
    first_suit = layout.suit_at[played[0]]
    counting = [place for place in played if layout.suit_at[place] in (first_suit, layout.trump_suit)]
    return int(layout.order[max(counting)])


def order_without(order, played):
    """Take the places of a whole trick out of an order."""
    kept = ""
    start = 0
    for place in sorted(played):
        kept += order[start:place]
        start = place + 1
    return kept + order[start:]


def places_allowed(layout, seat, played):
    """List the places that a seat may play: those of the suit played first, if it has one."""
    choices = layout.choices[seat]
    if len(played) == 0:
        return choices
    first_suit = layout.suit_at[played[0]]
    following = [place for place in choices if layout.suit_at[place] == first_suit]
    return following if len(following) > 0 else choices


def places_worth_playing(order, seat):
    """List a seat's places, the highest first, with one alone of those that stand side by side.

    Between cards side by side no other seat's card lies: each of them takes the same tricks and leaves the same order.
    """
    digit = str(seat)
    places = [place for place in range(len(order)) if order[place] == digit]
    return [place for place in reversed(places) if place == 0 or order[place - 1] != digit]


def suits_by_place(order):
    """Tell for each place of an order how many suits end ahead of it."""
    suits = []
    suit = 0
    for sign in order:
        suits.append(suit)
        if sign == FENCE:
            suit += 1
    return suits
