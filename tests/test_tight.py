"""Tests of tight: point 2, its refusals of point 1, and what holds of it."""

import unittest

from cases import EDGES, NOT_AS_TOLD, ReadOnlyList, is_plain_answer, lines, long_lines, sets_of
from middleseats.parties import joined, middle, tight


def is_row_by_gaps(own, places):
    """Found otherwise: whether nobody who is left out has one of these on either hand."""
    for k in range(len(places)):
        below = [i for i in own if places[i] < places[k]]
        above = [i for i in own if places[i] > places[k]]
        if k not in own and below and above:
            return False
    return True


def tight_by_inclusion(seats, places):
    """Found otherwise: the winning rows that hold no other winning row, however many are left out."""
    rows = {}
    for s, own in sets_of(seats):
        won = sum(seats[i] for i in own)
        if won > sum(seats) - won and is_row_by_gaps(own, places):
            rows[s] = set(own)
    found = sorted(s for s in rows if not any(rows[other] < rows[s] for other in rows))
    return [len(found)] + found


class OrdinaryTest(unittest.TestCase):
    def test_neighbours_that_win(self):
        self.assertEqual(tight([3, 3, 3], [10, 20, 30]), [2, 0b011, 0b110])
        self.assertEqual(tight([1, 1, 1, 1, 1], [10, 20, 30, 40, 50]), [3, 0b00111, 0b01110, 0b11100])

    def test_one_wins_alone(self):
        self.assertEqual(tight([1, 9, 2], [10, 20, 30]), [1, 0b010])
        self.assertEqual(tight([9, 1, 2], [10, 20, 30]), [1, 0b001])

    def test_one_at_an_end_that_can_be_missed(self):
        self.assertEqual(tight([1, 4, 5], [10, 20, 30]), [1, 0b110])
        self.assertEqual(tight([5, 4, 1], [10, 20, 30]), [1, 0b011])

    def test_one_within_may_be_missed_for_its_seats_alone(self):
        self.assertEqual(tight([4, 1, 4, 2], [10, 20, 30, 40]), [2, 0b0111, 0b1100])

    def test_places_count_not_the_order_told(self):
        self.assertEqual(tight([3, 3, 3], [10, 30, 20]), [2, 0b101, 0b110])
        self.assertEqual(tight([4, 2, 1, 4], [10, 40, 20, 30]), [2, 0b1010, 0b1101])

    def test_sets_rise_by_number_not_by_place(self):
        self.assertEqual(tight([1, 1, 1, 1, 1], [50, 40, 30, 20, 10]), [3, 0b00111, 0b01110, 0b11100])
        self.assertEqual(tight([3, 3, 3], [20, 30, 10]), [2, 0b011, 0b101])

    def test_distance_does_not_count(self):
        self.assertEqual(tight([3, 3, 3], [0, 99, 100]), [2, 0b011, 0b110])
        self.assertEqual(tight([3, 3, 3], [0, 1, 100]), [2, 0b011, 0b110])

    def test_as_by_inclusion(self):
        for seats, places in lines(4, (1, 2, 3), (0, 1, 2)):
            self.assertEqual(tight(seats, places), tight_by_inclusion(seats, places), (seats, places))

    def test_as_by_inclusion_of_long_lines(self):
        for seats, places in EDGES + list(long_lines()):
            self.assertEqual(tight(seats, places), tight_by_inclusion(seats, places), (seats, places))


class EdgeTest(unittest.TestCase):
    def test_one_party(self):
        for seats in (1, 200):
            for place in (0, 50, 100):
                self.assertEqual(tight([seats], [place]), [1, 0b1])

    def test_all_at_one_place(self):
        self.assertEqual(tight([3, 9], [50, 50]), [1, 0b10])
        self.assertEqual(tight([5, 5], [50, 50]), [1, 0b11])
        self.assertEqual(tight([5, 5, 5], [50, 50, 50]), [3, 0b011, 0b101, 0b110])

    def test_two_at_the_place_of_an_end(self):
        self.assertEqual(tight([3, 3, 3], [10, 10, 30]), [3, 0b011, 0b101, 0b110])
        self.assertEqual(tight([2, 2, 5], [10, 10, 30]), [1, 0b100])
        self.assertEqual(tight([2, 1, 3], [10, 10, 30]), [2, 0b101, 0b110])

    def test_two_at_a_place_within(self):
        self.assertEqual(tight([4, 1, 1, 4], [10, 20, 20, 30]), [2, 0b0111, 0b1110])
        self.assertEqual(tight([3, 1, 1, 3, 2], [10, 20, 20, 30, 40]), [3, 0b01111, 0b11010, 0b11100])

    def test_just_half_does_not_win(self):
        self.assertEqual(tight([5, 5], [0, 100]), [1, 0b11])
        self.assertEqual(tight([2, 1, 1], [10, 20, 30]), [1, 0b011])
        self.assertEqual(tight([10, 5, 5], [40, 20, 60]), [2, 0b011, 0b101])
        self.assertEqual(tight([1, 1, 1, 1], [10, 20, 30, 40]), [2, 0b0111, 0b1110])

    def test_one_seat_over_half_wins(self):
        self.assertEqual(tight([100, 99], [0, 100]), [1, 0b01])
        self.assertEqual(tight([199, 200], [0, 100]), [1, 0b10])

    def test_those_at_both_ends(self):
        self.assertEqual(tight([4, 1, 4], [0, 50, 100]), [2, 0b011, 0b110])
        self.assertEqual(tight([3, 3, 1, 3, 3], [0, 25, 50, 75, 100]), [3, 0b00111, 0b01110, 0b11100])
        self.assertEqual(tight([4, 4], [100, 0]), [1, 0b11])

    def test_place_0_and_place_100(self):
        self.assertEqual(tight([9, 1, 1], [0, 50, 100]), [1, 0b001])
        self.assertEqual(tight([1, 1, 9], [0, 50, 100]), [1, 0b100])

    def test_seven_parties(self):
        self.assertEqual(tight([1] * 7, [0, 10, 20, 30, 40, 50, 60]), [4, 0b1111, 0b11110, 0b111100, 0b1111000])
        self.assertEqual(tight([200] * 7, [0, 10, 30, 60, 70, 90, 100]), [4, 0b1111, 0b11110, 0b111100, 0b1111000])
        self.assertEqual(tight([1, 1, 1, 1, 1, 1, 200], [0, 10, 20, 30, 40, 50, 60]), [1, 0b1000000])
        self.assertEqual(tight([1] * 7, [50] * 7)[0], 35)


class RefusalTest(unittest.TestCase):
    def test_not_as_told(self):
        for name, seats, places in NOT_AS_TOLD:
            with self.subTest(name):
                self.assertEqual(tight(seats, places), [-22])

    def test_what_is_just_within_is_not_refused(self):
        self.assertEqual(tight([1, 200], [0, 100]), [1, 0b10])
        self.assertEqual(tight([200, 1], [100, 0]), [1, 0b01])
        self.assertEqual(tight([200, 1, 1, 1, 1, 1, 1], [100] * 7), [1, 0b1])


class HoldsTest(unittest.TestCase):
    def test_within_a_tight_row_no_other_row_wins(self):
        for seats, places in EDGES + list(long_lines()):
            for s in tight(seats, places)[1:]:
                for within in range(2 ** len(seats)):
                    row, wide, together = joined(within, seats, places)
                    if within & s == within and row == 1 and 2 * together > sum(seats):
                        self.assertEqual(within, s, (seats, places))

    def test_each_is_a_row_that_wins(self):
        for seats, places in EDGES + list(long_lines()):
            for s in tight(seats, places)[1:]:
                row, wide, together = joined(s, seats, places)
                self.assertEqual((row, 2 * together > sum(seats)), (1, True), (s, seats, places))

    def test_just_one_in_the_middle_is_of_each(self):
        for seats, places in EDGES + list(long_lines()):
            found = middle(seats, places)
            for s in tight(seats, places)[1:]:
                self.assertTrue(found[0] > 1 or s >> found[1] & 1, (s, seats, places))

    def test_turned_about(self):
        for seats, places in EDGES + list(long_lines()):
            turned = [100 - place for place in places]
            self.assertEqual(tight(seats, turned), tight(seats, places), (seats, places))


class CallTest(unittest.TestCase):
    CALLS = EDGES + [case[1:] for case in NOT_AS_TOLD]

    def test_arguments_by_name(self):
        self.assertEqual(tight(places=[10, 20], seats=[2, 3]), [1, 0b10])

    def test_kind_of_the_answer(self):
        for seats, places in self.CALLS:
            answer = tight(seats, places)
            self.assertTrue(is_plain_answer(answer), answer)
            self.assertEqual(len(answer), 1 if answer[0] < 0 else 1 + answer[0])

    def test_what_is_handed_in_is_not_changed(self):
        for seats, places in self.CALLS:
            handed_seats, handed_places = ReadOnlyList(seats), ReadOnlyList(places)
            tight(handed_seats, handed_places)
            self.assertEqual((handed_seats, handed_places), (seats, places))

    def test_a_second_call_answers_as_the_first(self):
        first = [tight(seats, places) for seats, places in self.CALLS]
        kept = [list(answer) for answer in first]
        for answer in first:
            answer.append(99)
        self.assertEqual([tight(seats, places) for seats, places in self.CALLS], kept)


if __name__ == "__main__":
    unittest.main()
