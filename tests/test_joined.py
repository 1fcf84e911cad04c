"""Tests of joined: point 2, its refusals of point 1, and what holds of it."""

import unittest

from cases import EDGES, GREATEST, NOT_AS_TOLD, ReadOnlyList, is_plain_answer, lines, long_lines
from middleseats.parties import joined


def joined_by_pairs(s, seats, places):
    """Found otherwise: word by word, over every two of the set and every party."""
    everybody = range(len(seats))
    own = [i for i in everybody if s // 2 ** i % 2]
    row, wide = 1, 0
    for a in own:
        for b in own:
            wide = max(wide, places[b] - places[a])
            for k in everybody:
                if places[a] < places[k] < places[b] and k not in own:
                    row = 0
    return [row, wide, sum(seats[i] for i in own)]


class OrdinaryTest(unittest.TestCase):
    SEATS = [1, 2, 4, 8]
    PLACES = [10, 25, 45, 70]

    def test_rows(self):
        self.assertEqual(joined(0b0011, self.SEATS, self.PLACES), [1, 15, 3])
        self.assertEqual(joined(0b0110, self.SEATS, self.PLACES), [1, 20, 6])
        self.assertEqual(joined(0b1100, self.SEATS, self.PLACES), [1, 25, 12])
        self.assertEqual(joined(0b0111, self.SEATS, self.PLACES), [1, 35, 7])
        self.assertEqual(joined(0b1110, self.SEATS, self.PLACES), [1, 45, 14])
        self.assertEqual(joined(0b1111, self.SEATS, self.PLACES), [1, 60, 15])

    def test_sets_that_leave_out_one_between(self):
        self.assertEqual(joined(0b0101, self.SEATS, self.PLACES), [0, 35, 5])
        self.assertEqual(joined(0b1010, self.SEATS, self.PLACES), [0, 45, 10])
        self.assertEqual(joined(0b1011, self.SEATS, self.PLACES), [0, 60, 11])
        self.assertEqual(joined(0b1101, self.SEATS, self.PLACES), [0, 60, 13])

    def test_places_count_not_the_order_told(self):
        self.assertEqual(joined(0b011, [1, 2, 4], [10, 90, 50]), [0, 80, 3])
        self.assertEqual(joined(0b101, [1, 2, 4], [10, 90, 50]), [1, 40, 5])

    def test_as_by_pairs(self):
        for seats, places in lines(4, (1, 5), (0, 1, 2, 3)):
            for s in range(2 ** len(seats)):
                self.assertEqual(joined(s, seats, places), joined_by_pairs(s, seats, places), (s, seats, places))

    def test_as_by_pairs_at_the_edges(self):
        for seats, places in EDGES:
            for s in range(2 ** len(seats)):
                self.assertEqual(joined(s, seats, places), joined_by_pairs(s, seats, places), (s, seats, places))


class EdgeTest(unittest.TestCase):
    def test_one_party(self):
        for seats in (1, 200):
            for place in (0, 50, 100):
                self.assertEqual(joined(1, [seats], [place]), [1, 0, seats])

    def test_nobody(self):
        for seats, places in EDGES:
            self.assertEqual(joined(0, seats, places), [1, 0, 0])

    def test_one_alone_is_a_row(self):
        for i in range(7):
            self.assertEqual(joined(2 ** i, [1, 2, 3, 4, 5, 6, 7], [0, 10, 20, 30, 40, 50, 60]), [1, 0, i + 1])

    def test_two_at_one_place(self):
        self.assertEqual(joined(0b11, [3, 9], [50, 50]), [1, 0, 12])
        self.assertEqual(joined(0b01, [3, 9], [50, 50]), [1, 0, 3])
        self.assertEqual(joined(0b10, [3, 9], [50, 50]), [1, 0, 9])

    def test_one_at_the_place_of_an_end_may_be_left_out(self):
        self.assertEqual(joined(0b101, [1, 2, 4], [10, 10, 30]), [1, 20, 5])
        self.assertEqual(joined(0b011, [1, 2, 4], [10, 30, 30]), [1, 20, 3])
        self.assertEqual(joined(0b0011, [1, 2, 4, 8], [10, 30, 10, 30]), [1, 20, 3])

    def test_one_at_a_place_within_may_not_be_left_out(self):
        self.assertEqual(joined(0b1011, [1, 2, 4, 8], [10, 20, 20, 30]), [0, 20, 11])
        self.assertEqual(joined(0b1101, [1, 2, 4, 8], [10, 20, 20, 30]), [0, 20, 13])
        self.assertEqual(joined(0b1111, [1, 2, 4, 8], [10, 20, 20, 30]), [1, 20, 15])

    def test_those_at_both_ends(self):
        self.assertEqual(joined(0b101, [1, 2, 4], [0, 50, 100]), [0, 100, 5])
        self.assertEqual(joined(0b101, [1, 2, 4], [0, 1, 100]), [0, 100, 5])
        self.assertEqual(joined(0b101, [1, 2, 4], [0, 99, 100]), [0, 100, 5])
        self.assertEqual(joined(0b11, [1, 2], [0, 100]), [1, 100, 3])
        self.assertEqual(joined(0b11, [1, 2], [100, 0]), [1, 100, 3])

    def test_place_0_and_place_100(self):
        self.assertEqual(joined(0b001, [7, 8, 9], [0, 50, 100]), [1, 0, 7])
        self.assertEqual(joined(0b100, [7, 8, 9], [0, 50, 100]), [1, 0, 9])
        self.assertEqual(joined(0b011, [7, 8, 9], [0, 50, 100]), [1, 50, 15])
        self.assertEqual(joined(0b110, [7, 8, 9], [0, 50, 100]), [1, 50, 17])

    def test_seven_parties(self):
        seats = [200] * 7
        places = [0, 10, 30, 60, 70, 90, 100]
        self.assertEqual(joined(0b1111111, seats, places), [1, 100, 1400])
        self.assertEqual(joined(0b1110111, seats, places), [0, 100, 1200])
        self.assertEqual(joined(0b1000001, seats, places), [0, 100, 400])
        self.assertEqual(joined(0b1110000, seats, places), [1, 30, 600])


class RefusalTest(unittest.TestCase):
    def test_not_as_told(self):
        for name, seats, places in NOT_AS_TOLD:
            for s in (0, 1):
                with self.subTest(name, s=s):
                    self.assertEqual(joined(s, seats, places), [-22])

    def test_somebody_of_s_is_none(self):
        for count in range(1, 8):
            for s in (2 ** count, 2 ** count + 1, 2 ** (count + 1) - 1, 2 ** 7, 2 ** 12, 2 ** 31, GREATEST):
                with self.subTest(count=count, s=s):
                    self.assertEqual(joined(s, [5] * count, [50] * count), [-2])

    def test_the_greatest_set_is_not_refused(self):
        for count in range(1, 8):
            self.assertEqual(joined(2 ** count - 1, [5] * count, [50] * count), [1, 0, 5 * count])

    def test_seats_and_places_are_refused_first(self):
        for name, seats, places in NOT_AS_TOLD:
            for s in (2 ** len(seats), 2 ** 12, GREATEST):
                with self.subTest(name, s=s):
                    self.assertEqual(joined(s, seats, places), [-22])

    def test_what_is_just_within_is_not_refused(self):
        self.assertEqual(joined(0b11, [1, 200], [0, 100]), [1, 100, 201])
        self.assertEqual(joined(0b11, [200, 1], [100, 0]), [1, 100, 201])


class HoldsTest(unittest.TestCase):
    def test_turned_about(self):
        for seats, places in EDGES + list(long_lines()):
            turned = [100 - place for place in places]
            for s in range(2 ** len(seats)):
                self.assertEqual(joined(s, seats, turned), joined(s, seats, places), (s, seats, places))


class CallTest(unittest.TestCase):
    def calls(self):
        for seats, places in EDGES + [case[1:] for case in NOT_AS_TOLD]:
            for s in (0, 1, 5, 2 ** len(seats) - 1, 2 ** len(seats), GREATEST):
                yield s, seats, places

    def test_arguments_by_name(self):
        self.assertEqual(joined(places=[10, 20], seats=[2, 3], s=2), [1, 0, 3])

    def test_kind_of_the_answer(self):
        for s, seats, places in self.calls():
            answer = joined(s, seats, places)
            self.assertTrue(is_plain_answer(answer), answer)
            self.assertEqual(len(answer), 1 if answer[0] < 0 else 3)

    def test_what_is_handed_in_is_not_changed(self):
        for s, seats, places in self.calls():
            handed_seats, handed_places = ReadOnlyList(seats), ReadOnlyList(places)
            joined(s, handed_seats, handed_places)
            self.assertEqual((handed_seats, handed_places), (seats, places))

    def test_a_second_call_answers_as_the_first(self):
        first = [joined(*call) for call in self.calls()]
        kept = [list(answer) for answer in first]
        for answer in first:
            answer.append(99)
        self.assertEqual([joined(*call) for call in self.calls()], kept)


if __name__ == "__main__":
    unittest.main()
