"""Tests of centre: point 3, its refusals of point 1, and what holds of it."""

import unittest

from cases import EDGES, NOT_AS_TOLD, ReadOnlyList, is_plain_answer, lines, long_lines
from middleseats.parties import centre, middle


def centre_by_seats(seats, places):
    """Found otherwise: seat by seat along the line, the one halfway, of two the lesser."""
    row = sorted(place for count, place in zip(seats, places) for seat in range(count))
    halfway = row[(len(row) - 1) // 2]
    return [halfway, sum(max(place, halfway) - min(place, halfway) for place in row)]


def least_away(seats, places):
    """Every place from which all seats are least away together, rising."""
    far = [sum(count * abs(here - place) for count, place in zip(seats, places)) for here in range(101)]
    return [here for here in range(101) if far[here] == min(far)]


class OrdinaryTest(unittest.TestCase):
    def test_one_of_three(self):
        self.assertEqual(centre([10, 10, 10], [20, 50, 90]), [50, 700])
        self.assertEqual(centre([1, 2, 3], [10, 20, 40]), [20, 70])

    def test_seats_count_not_parties(self):
        self.assertEqual(centre([1, 1, 1, 4], [10, 20, 30, 40]), [40, 60])
        self.assertEqual(centre([4, 1, 1, 1], [10, 20, 30, 40]), [10, 60])

    def test_it_is_not_the_mean(self):
        self.assertEqual(centre([3, 3, 3], [0, 1, 100]), [1, 300])
        self.assertEqual(centre([3, 2], [0, 100]), [0, 200])

    def test_places_count_not_the_order_told(self):
        self.assertEqual(centre([10, 10, 10], [90, 20, 50]), [50, 700])
        self.assertEqual(centre([3, 1, 2], [40, 10, 20]), [20, 70])

    def test_the_place_is_told_not_the_party(self):
        self.assertEqual(centre([1, 9, 1], [4, 6, 8]), [6, 4])

    def test_as_by_seats(self):
        for seats, places in lines(3, (1, 2, 3), (0, 1, 50, 100)):
            self.assertEqual(centre(seats, places), centre_by_seats(seats, places), (seats, places))

    def test_as_by_seats_of_long_lines(self):
        for seats, places in EDGES + list(long_lines()):
            self.assertEqual(centre(seats, places), centre_by_seats(seats, places), (seats, places))


class EdgeTest(unittest.TestCase):
    def test_one_party(self):
        for seats in (1, 200):
            for place in (0, 1, 50, 99, 100):
                self.assertEqual(centre([seats], [place]), [place, 0])

    def test_two_at_one_place(self):
        self.assertEqual(centre([3, 9], [50, 50]), [50, 0])
        self.assertEqual(centre([2, 2, 3], [10, 10, 20]), [10, 30])
        self.assertEqual(centre([2, 2, 5], [10, 10, 20]), [20, 40])

    def test_just_half_on_either_side(self):
        self.assertEqual(centre([5, 5], [0, 100]), [0, 500])
        self.assertEqual(centre([5, 5], [100, 0]), [0, 500])
        self.assertEqual(centre([4, 3, 1], [10, 20, 30]), [10, 50])
        self.assertEqual(centre([1, 3, 4], [10, 20, 30]), [20, 50])
        self.assertEqual(centre([10, 5, 5], [40, 20, 60]), [40, 200])

    def test_one_seat_from_half(self):
        self.assertEqual(centre([100, 99], [10, 20]), [10, 990])
        self.assertEqual(centre([199, 200], [10, 20]), [20, 1990])

    def test_two_in_the_middle(self):
        self.assertEqual(centre([1, 1, 1, 1], [60, 20, 80, 40]), [40, 80])
        self.assertEqual(centre([1, 1, 1, 1], [20, 60, 40, 80]), [40, 80])

    def test_place_0_and_place_100(self):
        self.assertEqual(centre([9, 1, 1], [0, 50, 100]), [0, 150])
        self.assertEqual(centre([1, 1, 9], [0, 50, 100]), [100, 150])
        self.assertEqual(centre([1, 2], [0, 100]), [100, 100])

    def test_seven_parties(self):
        self.assertEqual(centre([200] * 7, [0, 10, 30, 60, 70, 90, 100]), [60, 200 * 220])
        self.assertEqual(centre([200] * 7, [0, 100, 0, 100, 0, 100, 50]), [50, 60000])
        self.assertEqual(centre([1] * 7, [50] * 7), [50, 0])


class RefusalTest(unittest.TestCase):
    def test_not_as_told(self):
        for name, seats, places in NOT_AS_TOLD:
            with self.subTest(name):
                self.assertEqual(centre(seats, places), [-22])

    def test_what_is_just_within_is_not_refused(self):
        self.assertEqual(centre([1, 200], [0, 100]), [100, 100])
        self.assertEqual(centre([200, 1], [100, 0]), [100, 100])
        self.assertEqual(centre([200] * 7, [100] * 7), [100, 0])


class HoldsTest(unittest.TestCase):
    def test_at_the_centre_stands_one_in_the_middle(self):
        for seats, places in EDGES + list(long_lines()) + list(lines(3, (1, 2, 3), (0, 1, 50, 100))):
            in_middle = [places[i] for i in middle(seats, places)[1:]]
            self.assertIn(centre(seats, places)[0], in_middle, (seats, places))

    def test_from_nowhere_less_away_and_from_nowhere_before_as_little(self):
        for seats, places in EDGES + list(long_lines()):
            self.assertEqual(centre(seats, places)[0], least_away(seats, places)[0], (seats, places))

    def test_turned_about(self):
        # The first such place of the line turned about is the last such of the line as it was.
        for seats, places in EDGES + list(long_lines()):
            turned = [100 - place for place in places]
            last = least_away(seats, places)[-1]
            self.assertEqual(centre(seats, turned), [100 - last, centre(seats, places)[1]], (seats, places))


class CallTest(unittest.TestCase):
    CALLS = EDGES + [case[1:] for case in NOT_AS_TOLD]

    def test_arguments_by_name(self):
        self.assertEqual(centre(places=[10, 20], seats=[2, 3]), [20, 20])

    def test_kind_of_the_answer(self):
        for seats, places in self.CALLS:
            answer = centre(seats, places)
            self.assertTrue(is_plain_answer(answer), answer)
            self.assertEqual(len(answer), 1 if answer[0] < 0 else 2)

    def test_what_is_handed_in_is_not_changed(self):
        for seats, places in self.CALLS:
            handed_seats, handed_places = ReadOnlyList(seats), ReadOnlyList(places)
            centre(handed_seats, handed_places)
            self.assertEqual((handed_seats, handed_places), (seats, places))

    def test_a_second_call_answers_as_the_first(self):
        first = [centre(seats, places) for seats, places in self.CALLS]
        kept = [list(answer) for answer in first]
        for answer in first:
            answer.append(99)
        self.assertEqual([centre(seats, places) for seats, places in self.CALLS], kept)


if __name__ == "__main__":
    unittest.main()
