"""Parties on a line: who is in the middle, which sets are rows of neighbours, which win and are tight or narrow,
which place is the least away from all seats, which of two motions has more seats nearer, and who would be in the
middle, were one party to move.

A set of parties is a number in which party i counts 2^i.
"""

MOST_PARTIES = 7
MOST_SEATS = 200
LAST_PLACE = 100

NOT_AS_TOLD = -22
NO_SUCH_PARTY = -2


def are_as_told(seats, places):
    """Whether seats and places tell of 1 to 7 parties, each within its ranges."""
    if len(seats) < 1 or len(seats) > MOST_PARTIES:
        return False
    if len(places) != len(seats):
        return False
    if min(seats) < 1 or max(seats) > MOST_SEATS:
        return False
    return min(places) >= 0 and max(places) <= LAST_PLACE


def holds(s, i):
    """Whether party i is of the set s."""
    return (s >> i) % 2 == 1


def seats_of(s, seats):
    """How many seats the set s has."""
    return sum([seats[i] for i in range(len(seats)) if holds(s, i)])


def wins(s, seats):
    """Whether the set s has more than half of all seats."""
    # Doubled instead of halved, so that an odd number of seats is not rounded.
    return 2 * seats_of(s, seats) > sum(seats)


def sets_that_win(seats):
    """The sets that win, rising."""
    return [s for s in range(1 << len(seats)) if wins(s, seats)]


def places_of(s, places):
    """Where the parties of the set s stand."""
    return [places[i] for i in range(len(places)) if holds(s, i)]


def width(s, places):
    """How far it is from the least place of the set s to its greatest."""
    taken = places_of(s, places)
    if len(taken) == 0:
        return 0
    return max(taken) - min(taken)


def is_row(s, places):
    """Whether the set s is a row of neighbours."""
    taken = places_of(s, places)
    if len(taken) == 0:
        return True
    least = min(taken)
    greatest = max(taken)
    # The two at the ends are enough: who stands between any two of s stands between these.
    # One at an end's own place may be left out; one at the place of another of s may not.
    between = [i for i in range(len(places)) if places[i] > least and places[i] < greatest]
    return all([holds(s, i) for i in between])


def can_miss_nobody(s, rows):
    """Whether the set s, without any one of its parties, is none of these rows."""
    smaller = [s - (1 << i) for i in range(MOST_PARTIES) if holds(s, i)]
    return not any([rest in rows for rest in smaller])


def is_in_middle(i, seats, places):
    """Whether neither side of party i has more than half of all seats."""
    lesser = sum([seats[k] for k in range(len(seats)) if places[k] < places[i]])
    greater = sum([seats[k] for k in range(len(seats)) if places[k] > places[i]])
    # Doubled instead of halved, so that an odd number of seats is not rounded.
    return 2 * lesser <= sum(seats) and 2 * greater <= sum(seats)


def all_in_middle(seats, places):
    """The parties that are in the middle, rising."""
    return [i for i in range(len(seats)) if is_in_middle(i, seats, places)]


def away_together(place, seats, places):
    """How far all seats together are away from this place."""
    return sum([seats[i] * abs(places[i] - place) for i in range(len(seats))])


def seats_nearer(x, y, seats, places):
    """How many seats are nearer to x than to y."""
    return sum([seats[i] for i in range(len(seats)) if abs(places[i] - x) < abs(places[i] - y)])


def middle(seats, places):
    """How many parties are in the middle, then these, rising; or a refusal."""
    if not are_as_told(seats, places):
        return [NOT_AS_TOLD]
    found = all_in_middle(seats, places)
    return [len(found)] + found


def joined(s, seats, places):
    """1 if the set s is a row of neighbours, else 0; then its width and its seats; or a refusal."""
    if not are_as_told(seats, places):
        return [NOT_AS_TOLD]
    if s >> len(seats) != 0:
        return [NO_SUCH_PARTY]
    row = 1 if is_row(s, places) else 0
    return [row, width(s, places), seats_of(s, seats)]


def tight(seats, places):
    """How many winning rows of neighbours can miss none of their parties, then these, rising; or a refusal."""
    if not are_as_told(seats, places):
        return [NOT_AS_TOLD]
    rows = [s for s in sets_that_win(seats) if is_row(s, places)]
    found = [s for s in rows if can_miss_nobody(s, rows)]
    return [len(found)] + found


def narrowest(seats, places):
    """The width of the narrowest set that wins, then that set and its seats; or a refusal."""
    if not are_as_told(seats, places):
        return [NOT_AS_TOLD]
    # The order within a tuple is the order in which ties are settled: width, seats, number of the set.
    best = min([(width(s, places), seats_of(s, seats), s) for s in sets_that_win(seats)])
    return [best[0], best[2], best[1]]


def centre(seats, places):
    """The place from which all seats are least away together, then how far; or a refusal."""
    if not are_as_told(seats, places):
        return [NOT_AS_TOLD]
    # Behind how far in the tuple, so that of places equally away the first on the line is taken.
    best = min([(away_together(place, seats, places), place) for place in range(LAST_PLACE + 1)])
    return [best[1], best[0]]


def motion(x, y, seats, places):
    """How many seats are nearer to x than to y, then how many are nearer to y; or a refusal."""
    if not are_as_told(seats, places):
        return [NOT_AS_TOLD]
    if x > LAST_PLACE or y > LAST_PLACE:
        return [NOT_AS_TOLD]
    return [seats_nearer(x, y, seats, places), seats_nearer(y, x, seats, places)]


def moved(i, x, seats, places):
    """How many parties would be in the middle, did party i stand at x, then these, rising; or a refusal."""
    if not are_as_told(seats, places):
        return [NOT_AS_TOLD]
    if i >= len(seats):
        return [NO_SUCH_PARTY]
    if x > LAST_PLACE:
        return [NOT_AS_TOLD]
    # A copy: what is handed in is not changed, not for a while either.
    after = list(places)
    after[i] = x
    found = all_in_middle(seats, after)
    return [len(found)] + found
