"""Inputs and helpers that several test files need."""

import itertools

GREATEST = 4294967295

# Each with what is wrong in it; every call refuses all of these with -22.
NOT_AS_TOLD = [
    ("no party", [], []),
    ("no party, but a place", [], [50]),
    ("a party without a place", [5], []),
    ("8 parties", [1] * 8, [10] * 8),
    ("12 parties", [1] * 12, list(range(12))),
    ("8 seats, 7 places", [1] * 8, [10] * 7),
    ("7 seats, 8 places", [1] * 7, [10] * 8),
    ("1 party, 12 places", [1], [10] * 12),
    ("fewer places than seats", [1, 2, 3], [10, 20]),
    ("more places than seats", [1, 2], [10, 20, 30]),
    ("0 seats", [0], [50]),
    ("0 seats, the first", [0, 5, 5], [10, 20, 30]),
    ("0 seats, within", [5, 0, 5], [10, 20, 30]),
    ("0 seats, the last of 7", [5, 5, 5, 5, 5, 5, 0], [1, 2, 3, 4, 5, 6, 7]),
    ("201 seats", [201], [50]),
    ("201 seats, the first", [201, 5, 5], [10, 20, 30]),
    ("201 seats, within", [5, 201, 5], [10, 20, 30]),
    ("201 seats, the last", [5, 5, 201], [10, 20, 30]),
    ("the most seats that can be handed in", [5, GREATEST], [10, 20]),
    ("place 101", [5], [101]),
    ("place 101, the first", [5, 5, 5], [101, 20, 30]),
    ("place 101, within", [5, 5, 5], [10, 101, 30]),
    ("place 101, the last", [5, 5, 5], [10, 20, 101]),
    ("the greatest place that can be handed in", [5, 5], [10, GREATEST]),
    ("0 seats and place 101", [0, 5], [10, 101]),
    ("0 and 201 seats", [0, 201], [10, 20]),
    ("8 parties, 0 seats, place 101, too few places", [0] * 8, [101] * 7),
    ("all too great", [GREATEST] * 12, [GREATEST] * 12),
]

# The edges that the document names, as (seats, places).
EDGES = [
    ([1], [0]),
    ([200], [100]),
    ([3, 4], [50, 50]),
    ([5, 5], [0, 100]),
    ([2, 1, 1], [10, 20, 30]),
    ([10, 5, 5], [40, 20, 60]),
    ([200, 200, 200], [0, 50, 100]),
    ([1, 2, 3, 4, 5, 6, 7], [90, 10, 50, 50, 30, 0, 100]),
    ([200] * 7, [0, 100, 0, 100, 0, 100, 50]),
    ([1] * 7, [50] * 7),
]


class ReadOnlyList(list):
    """A list that tells at once when it is changed, even if only for a while."""

    def refuse(self, *args, **kwargs):
        raise AssertionError("what was handed in is changed")

    __setitem__ = __delitem__ = __iadd__ = __imul__ = refuse
    append = clear = extend = insert = pop = remove = reverse = sort = refuse


def lines(most_parties, seat_choices, place_choices):
    """Every (seats, places) of up to most_parties parties over these choices."""
    for count in range(1, most_parties + 1):
        for seats in itertools.product(seat_choices, repeat=count):
            for places in itertools.product(place_choices, repeat=count):
                yield list(seats), list(places)


def long_lines():
    """Lines of 5 to 7 parties, spread over the ranges, with ties among the places and the seats."""
    for k in range(90):
        everybody = range(5 + k % 3)
        most_seats, last_place = (3, 20, 200)[k % 9 // 3], (3, 10, 100)[k // 30]
        seats = [(31 * k + 17 * i * i + 7 * i) % most_seats + 1 for i in everybody]
        places = [(53 * k + 29 * i + k * i * i) % (last_place + 1) for i in everybody]
        yield seats, places


def sets_of(seats):
    """Every set of these parties, each as (its number, its parties)."""
    everybody = range(len(seats))
    for count in range(len(seats) + 1):
        for own in itertools.combinations(everybody, count):
            yield sum(2 ** i for i in own), own


def middle_by_seats(seats, places):
    """Found otherwise: seat by seat along the line, the one or two halfway."""
    row = sorted(place for count, place in zip(seats, places) for seat in range(count))
    halfway = (row[(len(row) - 1) // 2], row[len(row) // 2])
    found = [i for i, place in enumerate(places) if place in halfway]
    return [len(found)] + found


def is_plain_answer(answer):
    """Whether it is a list of whole numbers, none of them True or False, and only a refusal, alone, below 0."""
    if type(answer) is not list or not all(type(number) is int for number in answer):
        return False
    return answer in ([-22], [-2]) or all(number >= 0 for number in answer)
