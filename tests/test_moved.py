"""Tests of moved: point 3, its refusals of point 1, and what holds of it."""

import unittest

from cases import EDGES, GREATEST, NOT_AS_TOLD, ReadOnlyList, is_plain_answer, lines, long_lines, middle_by_seats
from middleseats.parties import joined, middle, motion, moved


def line_after(i, x, places):
    """The places when party i stands at x."""
    return places[:i] + [x] + places[i + 1:]


def moves(seats, places):
    """Moves of every party: to both ends, and to, just before and just behind the place of each."""
    targets = {0, 50, 100} | {place + step for place in places for step in (-1, 0, 1)}
    for i in range(len(seats)):
        for x in sorted(targets & set(range(101))):
            yield i, x


class OrdinaryTest(unittest.TestCase):
    def test_one_comes_into_the_middle(self):
        self.assertEqual(moved(2, 40, [5, 5, 5], [20, 50, 80]), [1, 2])
        self.assertEqual(moved(0, 60, [5, 5, 5], [20, 50, 80]), [1, 0])

    def test_one_goes_out_of_the_middle(self):
        self.assertEqual(moved(1, 90, [5, 5, 5], [20, 50, 80]), [1, 2])
        self.assertEqual(moved(1, 10, [5, 5, 5], [20, 50, 80]), [1, 0])

    def test_one_passes_the_middle(self):
        self.assertEqual(moved(2, 0, [5, 5, 5], [20, 50, 80]), [1, 0])
        self.assertEqual(moved(0, 100, [5, 5, 5], [20, 50, 80]), [1, 2])

    def test_just_party_i_moves(self):
        self.assertEqual(moved(0, 45, [3, 4, 3, 1], [20, 80, 40, 60]), [1, 0])
        self.assertEqual(moved(1, 45, [3, 4, 3, 1], [20, 80, 40, 60]), [1, 2])
        self.assertEqual(moved(2, 90, [3, 4, 3, 1], [20, 80, 40, 60]), [1, 1])

    def test_seats_count_not_parties(self):
        self.assertEqual(moved(3, 0, [1, 1, 1, 4], [10, 20, 30, 40]), [1, 3])
        self.assertEqual(moved(3, 0, [1, 1, 1, 2], [10, 20, 30, 40]), [1, 0])

    def test_as_by_seats(self):
        for seats, places in lines(3, (1, 2, 3), (0, 2, 4)):
            for i in range(len(seats)):
                for x in range(6):
                    expected = middle_by_seats(seats, line_after(i, x, places))
                    self.assertEqual(moved(i, x, seats, places), expected, (i, x, seats, places))

    def test_as_by_seats_of_long_lines(self):
        for seats, places in EDGES + list(long_lines()):
            for i, x in moves(seats, places):
                expected = middle_by_seats(seats, line_after(i, x, places))
                self.assertEqual(moved(i, x, seats, places), expected, (i, x, seats, places))


class EdgeTest(unittest.TestCase):
    def test_one_party(self):
        for place in (0, 50, 100):
            for x in (0, 1, 50, 99, 100):
                self.assertEqual(moved(0, x, [7], [place]), [1, 0])

    def test_two_at_one_place_before_the_move(self):
        self.assertEqual(moved(0, 60, [3, 9], [50, 50]), [1, 1])
        self.assertEqual(moved(1, 20, [5, 5, 5], [50, 50, 80]), [1, 0])
        self.assertEqual(moved(1, 60, [5, 5, 5], [50, 50, 80]), [1, 1])

    def test_two_at_one_place_after_the_move(self):
        self.assertEqual(moved(0, 60, [3, 9], [50, 60]), [2, 0, 1])
        self.assertEqual(moved(2, 50, [5, 5, 5], [20, 50, 80]), [2, 1, 2])
        self.assertEqual(moved(0, 80, [5, 5, 5], [20, 50, 80]), [2, 0, 2])

    def test_all_at_one_place_after_the_move(self):
        self.assertEqual(moved(1, 50, [5, 5, 5], [50, 51, 50]), [3, 0, 1, 2])

    def test_just_half_on_either_side(self):
        self.assertEqual(moved(0, 100, [5, 5], [0, 50]), [2, 0, 1])
        self.assertEqual(moved(2, 30, [4, 3, 1], [10, 20, 0]), [2, 0, 1])
        self.assertEqual(moved(0, 10, [1, 3, 4], [90, 20, 30]), [2, 1, 2])

    def test_one_seat_from_half(self):
        self.assertEqual(moved(2, 30, [4, 4, 1], [10, 20, 0]), [1, 1])
        self.assertEqual(moved(0, 100, [100, 99], [10, 20]), [1, 0])

    def test_two_in_the_middle_before_the_move_and_after_it(self):
        self.assertEqual(moved(1, 70, [1, 1, 1, 1], [60, 20, 80, 40]), [2, 0, 1])
        self.assertEqual(moved(1, 50, [1, 1, 1, 1], [60, 20, 80, 40]), [2, 0, 1])
        self.assertEqual(moved(0, 10, [1, 1, 1, 1], [60, 20, 80, 40]), [2, 1, 3])

    def test_more_than_two_in_the_middle(self):
        self.assertEqual(moved(4, 60, [2, 2, 1, 1, 2], [60, 40, 60, 40, 0]), [3, 0, 2, 4])

    def test_place_0_and_place_100(self):
        self.assertEqual(moved(0, 0, [3, 1, 1], [50, 20, 100]), [1, 0])
        self.assertEqual(moved(1, 100, [2, 2, 1], [0, 50, 99]), [1, 2])
        self.assertEqual(moved(0, 100, [2, 2, 1], [0, 50, 99]), [1, 2])
        self.assertEqual(moved(2, 0, [2, 2, 1], [1, 50, 99]), [1, 0])

    def test_a_move_to_its_own_place_changes_nothing(self):
        for seats, places in EDGES + list(long_lines()):
            for i in range(len(seats)):
                self.assertEqual(moved(i, places[i], seats, places), middle(seats, places), (i, seats, places))

    def test_a_move_that_passes_nobody_changes_nothing(self):
        self.assertEqual(moved(0, 49, [5, 5, 5], [20, 50, 80]), [1, 1])
        self.assertEqual(moved(0, 0, [5, 5, 5], [20, 50, 80]), [1, 1])
        self.assertEqual(moved(1, 79, [5, 5, 5], [20, 50, 80]), [1, 1])
        self.assertEqual(moved(2, 51, [5, 5, 5], [20, 50, 80]), [1, 1])

    def test_the_last_party(self):
        self.assertEqual(moved(6, 35, [1] * 7, [10, 20, 30, 40, 50, 60, 70]), [1, 6])
        self.assertEqual(moved(6, 0, [200] * 7, [10, 20, 30, 40, 50, 60, 70]), [1, 2])
        self.assertEqual(moved(1, 0, [5, 5], [50, 50]), [2, 0, 1])

    def test_seven_parties(self):
        self.assertEqual(moved(0, 100, [200] * 7, [0, 10, 30, 60, 70, 90, 100]), [1, 4])
        self.assertEqual(moved(3, 50, [1] * 7, [50] * 7), [7, 0, 1, 2, 3, 4, 5, 6])
        self.assertEqual(moved(3, 51, [1] * 7, [50] * 7), [6, 0, 1, 2, 4, 5, 6])


class RefusalTest(unittest.TestCase):
    def test_not_as_told(self):
        for name, seats, places in NOT_AS_TOLD:
            with self.subTest(name):
                self.assertEqual(moved(0, 50, seats, places), [-22])

    def test_there_is_no_party_i(self):
        for count in range(1, 8):
            for i in (count, count + 1, 7, 12, GREATEST):
                with self.subTest(count=count, i=i):
                    self.assertEqual(moved(i, 50, [5] * count, [50] * count), [-2])

    def test_x_above_100(self):
        for seats, places in EDGES:
            for i in range(len(seats)):
                for x in (101, 102, GREATEST):
                    self.assertEqual(moved(i, x, seats, places), [-22], (i, x, seats, places))

    def test_seats_and_places_are_refused_ahead_of_i(self):
        for name, seats, places in NOT_AS_TOLD:
            for i in (len(seats), 7, 12, GREATEST):
                with self.subTest(name, i=i):
                    self.assertEqual(moved(i, 50, seats, places), [-22])

    def test_i_is_refused_ahead_of_x(self):
        for count in range(1, 8):
            for i in (count, 7, GREATEST):
                for x in (101, GREATEST):
                    with self.subTest(count=count, i=i, x=x):
                        self.assertEqual(moved(i, x, [5] * count, [50] * count), [-2])

    def test_seats_and_places_are_refused_with_x_too_great(self):
        for name, seats, places in NOT_AS_TOLD:
            for x in (101, GREATEST):
                with self.subTest(name, x=x):
                    self.assertEqual(moved(0, x, seats, places), [-22])

    def test_all_three_at_once(self):
        for name, seats, places in NOT_AS_TOLD:
            with self.subTest(name):
                self.assertEqual(moved(GREATEST, GREATEST, seats, places), [-22])
                self.assertEqual(moved(max(len(seats), 7), 101, seats, places), [-22])

    def test_a_move_does_not_mend_a_place_above_100(self):
        self.assertEqual(moved(0, 50, [5], [101]), [-22])
        self.assertEqual(moved(1, 0, [5, 5], [10, GREATEST]), [-22])

    def test_what_is_just_within_is_not_refused(self):
        self.assertEqual(moved(1, 100, [1, 200], [0, 100]), [1, 1])
        self.assertEqual(moved(0, 0, [200, 1], [100, 0]), [2, 0, 1])
        self.assertEqual(moved(6, 100, [1] * 7, [100] * 7), [7, 0, 1, 2, 3, 4, 5, 6])


class HoldsTest(unittest.TestCase):
    def many_moves(self):
        for seats, places in EDGES + list(long_lines()):
            for i in range(len(seats)):
                for x in (0, 1, 7, 50, 100):
                    yield i, x, seats, places

    def test_somebody_is_always_in_the_middle(self):
        for i, x, seats, places in self.many_moves():
            self.assertGreaterEqual(moved(i, x, seats, places)[0], 1, (i, x, seats, places))

    def test_just_one_is_of_every_row_that_wins(self):
        for seats, places in EDGES + list(long_lines()):
            found = moved(0, 50, seats, places)
            if found[0] > 1:
                continue
            for s in range(2 ** len(seats)):
                row, wide, together = joined(s, seats, line_after(0, 50, places))
                if row == 1 and 2 * together > sum(seats):
                    self.assertEqual(s >> found[1] & 1, 1, (s, seats, places))

    def test_no_motion_has_more_than_half_against_one_in_the_middle(self):
        for seats, places in EDGES + list(long_lines()):
            after = line_after(0, 50, places)
            for k in moved(0, 50, seats, places)[1:]:
                for y in range(101):
                    self.assertLessEqual(2 * motion(y, after[k], seats, after)[0], sum(seats), (y, seats, places))

    def test_moved_there_and_back(self):
        for i, x, seats, places in self.many_moves():
            back = moved(i, places[i], seats, line_after(i, x, places))
            self.assertEqual(back, middle(seats, places), (i, x, seats, places))

    def test_turned_about(self):
        for i, x, seats, places in self.many_moves():
            turned = [100 - place for place in places]
            found = moved(i, x, seats, places)
            self.assertEqual(moved(i, 100 - x, seats, turned), found, (i, x, seats, places))


class CallTest(unittest.TestCase):
    def calls(self):
        for seats, places in EDGES + [case[1:] for case in NOT_AS_TOLD]:
            for i in (0, max(len(seats), 1) - 1, len(seats), GREATEST):
                for x in (0, 50, 100, 101, GREATEST):
                    yield i, x, seats, places

    def test_arguments_by_name(self):
        self.assertEqual(moved(places=[10, 20, 30], seats=[2, 2, 2], x=25, i=0), [1, 0])

    def test_kind_of_the_answer(self):
        for call in self.calls():
            answer = moved(*call)
            self.assertTrue(is_plain_answer(answer), answer)
            self.assertEqual(len(answer), 1 if answer[0] < 0 else 1 + answer[0])

    def test_what_is_handed_in_is_not_changed(self):
        for i, x, seats, places in self.calls():
            handed_seats, handed_places = ReadOnlyList(seats), ReadOnlyList(places)
            moved(i, x, handed_seats, handed_places)
            self.assertEqual((handed_seats, handed_places), (seats, places))

    def test_a_second_call_answers_as_the_first(self):
        first = [moved(*call) for call in self.calls()]
        kept = [list(answer) for answer in first]
        for answer in first:
            answer.append(99)
        self.assertEqual([moved(*call) for call in self.calls()], kept)

    def test_a_move_is_not_kept(self):
        seats, places = [5, 5, 5], [20, 50, 80]
        moved(2, 40, seats, places)
        self.assertEqual(middle(seats, places), [1, 1])
        self.assertEqual(moved(0, 60, seats, places), [1, 0])


if __name__ == "__main__":
    unittest.main()
