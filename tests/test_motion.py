"""Tests of motion: point 3, its refusals of point 1, and what holds of it."""

import unittest

from cases import EDGES, GREATEST, NOT_AS_TOLD, ReadOnlyList, is_plain_answer, lines, long_lines
from middleseats.parties import middle, motion


def motion_by_halves(x, y, seats, places):
    """Found otherwise: the line parted halfway between x and y."""
    lesser = sum(count for count, place in zip(seats, places) if 2 * place < x + y)
    greater = sum(count for count, place in zip(seats, places) if 2 * place > x + y)
    if x == y:
        return [0, 0]
    return [lesser, greater] if x < y else [greater, lesser]


class OrdinaryTest(unittest.TestCase):
    SEATS = [1, 2, 4, 8]
    PLACES = [10, 25, 45, 70]

    def test_nearer_to_one_or_to_the_other(self):
        self.assertEqual(motion(20, 60, self.SEATS, self.PLACES), [3, 12])
        self.assertEqual(motion(30, 80, self.SEATS, self.PLACES), [7, 8])
        self.assertEqual(motion(0, 15, self.SEATS, self.PLACES), [0, 15])

    def test_x_is_told_first(self):
        self.assertEqual(motion(60, 20, self.SEATS, self.PLACES), [12, 3])
        self.assertEqual(motion(80, 30, self.SEATS, self.PLACES), [8, 7])

    def test_all_are_nearer_to_one(self):
        self.assertEqual(motion(75, 80, self.SEATS, self.PLACES), [15, 0])
        self.assertEqual(motion(5, 3, self.SEATS, self.PLACES), [15, 0])
        self.assertEqual(motion(3, 5, self.SEATS, self.PLACES), [0, 15])

    def test_seats_count_not_parties(self):
        self.assertEqual(motion(10, 90, [1, 1, 1, 9], [10, 20, 30, 80]), [3, 9])

    def test_places_count_not_the_order_told(self):
        self.assertEqual(motion(20, 60, [8, 1, 4, 2], [70, 10, 45, 25]), [3, 12])

    def test_as_by_halves(self):
        for seats, places in lines(3, (1, 5), (0, 1, 2, 4)):
            for x in range(6):
                for y in range(6):
                    found = motion(x, y, seats, places)
                    self.assertEqual(found, motion_by_halves(x, y, seats, places), (x, y, seats, places))

    def test_as_by_halves_of_long_lines(self):
        for seats, places in EDGES + list(long_lines()):
            for x in (0, 1, 2, 49, 50, 51, 99, 100):
                for y in range(101):
                    found = motion(x, y, seats, places)
                    self.assertEqual(found, motion_by_halves(x, y, seats, places), (x, y, seats, places))


class EdgeTest(unittest.TestCase):
    def test_one_party(self):
        self.assertEqual(motion(0, 100, [7], [49]), [7, 0])
        self.assertEqual(motion(0, 100, [7], [51]), [0, 7])
        self.assertEqual(motion(0, 100, [7], [50]), [0, 0])

    def test_x_equal_to_y(self):
        for seats, places in EDGES:
            for x in (0, 1, 50, 99, 100):
                self.assertEqual(motion(x, x, seats, places), [0, 0], (x, seats, places))

    def test_as_far_from_x_as_from_y(self):
        self.assertEqual(motion(10, 30, [3, 5, 9], [10, 20, 30]), [3, 9])
        self.assertEqual(motion(30, 10, [3, 5, 9], [10, 20, 30]), [9, 3])
        self.assertEqual(motion(10, 31, [3, 5, 9], [10, 20, 30]), [8, 9])
        self.assertEqual(motion(9, 30, [3, 5, 9], [10, 20, 30]), [3, 14])

    def test_two_at_one_place(self):
        self.assertEqual(motion(40, 70, [3, 9], [50, 50]), [12, 0])
        self.assertEqual(motion(40, 60, [3, 9], [50, 50]), [0, 0])
        self.assertEqual(motion(10, 20, [3, 9, 4], [10, 10, 20]), [12, 4])

    def test_just_half_on_either_side(self):
        self.assertEqual(motion(0, 100, [5, 5], [0, 100]), [5, 5])
        self.assertEqual(motion(20, 60, [10, 5, 5], [40, 20, 60]), [5, 5])
        self.assertEqual(motion(10, 20, [2, 1, 1], [10, 20, 30]), [2, 2])

    def test_two_in_the_middle(self):
        self.assertEqual(motion(40, 60, [1, 1, 1, 1], [60, 20, 80, 40]), [2, 2])

    def test_place_0_and_place_100(self):
        self.assertEqual(motion(0, 100, [7, 8, 9], [0, 50, 100]), [7, 9])
        self.assertEqual(motion(100, 0, [7, 8, 9], [0, 50, 100]), [9, 7])
        self.assertEqual(motion(0, 1, [7, 8, 9], [0, 50, 100]), [7, 17])
        self.assertEqual(motion(99, 100, [7, 8, 9], [0, 50, 100]), [15, 9])

    def test_seven_parties(self):
        self.assertEqual(motion(0, 100, [200] * 7, [0, 10, 30, 60, 70, 90, 100]), [600, 800])
        self.assertEqual(motion(100, 0, [200] * 7, [0, 100, 0, 100, 0, 100, 50]), [600, 600])
        self.assertEqual(motion(50, 0, [1] * 7, [50] * 7), [7, 0])


class RefusalTest(unittest.TestCase):
    TOO_GREAT = [(101, 0), (0, 101), (101, 101), (101, 100), (100, 101), (GREATEST, 50), (50, GREATEST),
                 (GREATEST, GREATEST)]

    def test_not_as_told(self):
        for name, seats, places in NOT_AS_TOLD:
            for x, y in ((0, 100), (100, 0), (50, 50)):
                with self.subTest(name, x=x, y=y):
                    self.assertEqual(motion(x, y, seats, places), [-22])

    def test_x_or_y_above_100(self):
        for seats, places in EDGES:
            for x, y in self.TOO_GREAT:
                self.assertEqual(motion(x, y, seats, places), [-22], (x, y, seats, places))

    def test_several_at_once(self):
        for name, seats, places in NOT_AS_TOLD:
            for x, y in self.TOO_GREAT:
                with self.subTest(name, x=x, y=y):
                    self.assertEqual(motion(x, y, seats, places), [-22])

    def test_what_is_just_within_is_not_refused(self):
        self.assertEqual(motion(100, 0, [1, 200], [0, 100]), [200, 1])
        self.assertEqual(motion(0, 100, [200, 1], [100, 0]), [1, 200])
        self.assertEqual(motion(100, 100, [200] * 7, [100] * 7), [0, 0])


class HoldsTest(unittest.TestCase):
    def test_no_motion_has_more_than_half_against_one_in_the_middle(self):
        for seats, places in EDGES + list(long_lines()):
            for i in middle(seats, places)[1:]:
                for x in range(101):
                    against = motion(x, places[i], seats, places)[0]
                    self.assertLessEqual(2 * against, sum(seats), (x, i, seats, places))

    def test_told_the_other_way_round(self):
        for seats, places in EDGES + list(long_lines()):
            for x, y in ((0, 100), (3, 8), (50, 20), (99, 98)):
                found = motion(x, y, seats, places)
                self.assertEqual(motion(y, x, seats, places), found[::-1], (x, y, seats, places))

    def test_turned_about(self):
        for seats, places in EDGES + list(long_lines()):
            turned = [100 - place for place in places]
            for x, y in ((0, 100), (100, 0), (3, 8), (50, 20), (99, 98), (40, 40)):
                found = motion(x, y, seats, places)
                self.assertEqual(motion(100 - x, 100 - y, seats, turned), found, (x, y, seats, places))


class CallTest(unittest.TestCase):
    def calls(self):
        for seats, places in EDGES + [case[1:] for case in NOT_AS_TOLD]:
            for x, y in ((0, 100), (60, 20), (50, 50), (101, 0), (0, GREATEST)):
                yield x, y, seats, places

    def test_arguments_by_name(self):
        self.assertEqual(motion(places=[10, 20], seats=[2, 3], y=9, x=30), [3, 2])

    def test_kind_of_the_answer(self):
        for call in self.calls():
            answer = motion(*call)
            self.assertTrue(is_plain_answer(answer), answer)
            self.assertEqual(len(answer), 1 if answer[0] < 0 else 2)

    def test_what_is_handed_in_is_not_changed(self):
        for x, y, seats, places in self.calls():
            handed_seats, handed_places = ReadOnlyList(seats), ReadOnlyList(places)
            motion(x, y, handed_seats, handed_places)
            self.assertEqual((handed_seats, handed_places), (seats, places))

    def test_a_second_call_answers_as_the_first(self):
        first = [motion(*call) for call in self.calls()]
        kept = [list(answer) for answer in first]
        for answer in first:
            answer.append(99)
        self.assertEqual([motion(*call) for call in self.calls()], kept)


if __name__ == "__main__":
    unittest.main()
