"""Seats by honour."""

import unittest

from tests.calls import ask, ask_last, begin, guests, host, seats
from tests.reference import evenings


def seats_of(count, *hosts):
    """The seats by honour where guest 0 sits at the first of these and 1 at the second."""
    line = [host(number, seat) for number, seat in enumerate(hosts)]
    told = ask_last(*guests(count), *line, seats())
    if told[0] != len(told) - 1:
        raise AssertionError(f"{told[0]} are counted in {told}")
    return told[1:]


class WithoutAHost(unittest.TestCase):
    def test_it_is_refused(self):
        for count in range(10):
            self.assertEqual(ask_last(*guests(count), seats()), [-2])

    def test_a_refused_host_is_none(self):
        told = ask(*guests(2), host(2, 0), seats(), host(0, 2), seats(), host(0, 1), seats())
        self.assertEqual(told[2:], [[-1], [-2], [-1], [-2], [1], [1, 0]])

    def test_hosts_of_an_earlier_house(self):
        told = ask(*guests(2), host(0, 0), seats(), begin(), seats(), *guests(2), seats())
        self.assertEqual(told[3:], [[1, 1], [0], [-2], [0], [1], [-2]])


class OneHost(unittest.TestCase):
    def test_one_guest_alone(self):
        self.assertEqual(ask_last(*guests(1), host(0, 0), seats()), [0])

    def test_two_guests(self):
        self.assertEqual(seats_of(2, 0), [1])
        self.assertEqual(seats_of(2, 1), [0])

    def test_an_odd_number_of_seats(self):
        self.assertEqual(seats_of(3, 0), [1, 2])
        self.assertEqual(seats_of(5, 0), [1, 4, 2, 3])
        self.assertEqual(seats_of(5, 3), [4, 2, 0, 1])
        self.assertEqual(seats_of(9, 4), [5, 3, 6, 2, 7, 1, 8, 0])
        self.assertEqual(seats_of(9, 8), [0, 7, 1, 6, 2, 5, 3, 4])

    def test_an_even_number_of_seats(self):
        self.assertEqual(seats_of(4, 0), [1, 3, 2])
        self.assertEqual(seats_of(6, 5), [0, 4, 1, 3, 2])
        self.assertEqual(seats_of(8, 2), [3, 1, 4, 0, 5, 7, 6])

    def test_it_is_the_seat_and_not_the_guest_that_counts(self):
        for number in range(5):
            told = ask_last(*guests(5), host(number, 1), seats())
            self.assertEqual(told, [4, 2, 0, 3, 4])


class TwoHosts(unittest.TestCase):
    def test_two_guests(self):
        self.assertEqual(ask_last(*guests(2), host(1, 0), host(0, 1), seats()), [0])

    def test_three_guests(self):
        self.assertEqual(seats_of(3, 0, 1), [2])
        self.assertEqual(seats_of(3, 2, 0), [1])

    def test_opposite(self):
        self.assertEqual(seats_of(4, 0, 2), [1, 3])
        self.assertEqual(seats_of(8, 0, 4), [1, 5, 7, 3, 2, 6])
        self.assertEqual(seats_of(6, 1, 4), [2, 5, 0, 3])

    def test_the_one_told_first_is_the_first_host(self):
        self.assertEqual(seats_of(8, 4, 0), [5, 1, 3, 7, 6, 2])
        self.assertEqual(seats_of(6, 4, 1), [5, 2, 3, 0])

    def test_side_by_side(self):
        self.assertEqual(seats_of(6, 0, 1), [2, 5, 3, 4])
        self.assertEqual(seats_of(6, 1, 0), [2, 5, 3, 4])
        self.assertEqual(seats_of(7, 2, 3), [4, 1, 5, 0, 6])
        self.assertEqual(seats_of(5, 4, 0), [1, 3, 2])

    def test_one_seat_between(self):
        self.assertEqual(seats_of(6, 0, 2), [1, 3, 5, 4])
        self.assertEqual(seats_of(6, 2, 0), [3, 1, 5, 4])
        self.assertEqual(seats_of(9, 8, 1), [0, 2, 7, 3, 6, 4, 5])

    def test_an_odd_number_of_seats(self):
        self.assertEqual(seats_of(9, 0, 4), [1, 5, 8, 3, 2, 6, 7])
        self.assertEqual(seats_of(5, 0, 2), [1, 3, 4])
        self.assertEqual(seats_of(5, 2, 0), [3, 1, 4])

    def test_a_second_host_makes_new_seats(self):
        told = ask(*guests(5), host(0, 0), seats(), host(1, 3), seats(), host(2, 4), seats())
        self.assertEqual(told[5:], [[1], [4, 1, 4, 2, 3], [2], [3, 1, 4, 2], [-4],
                                    [3, 1, 4, 2]])


class EachSeatOnce(unittest.TestCase):
    def test_none_of_the_hosts_own(self):
        for count in range(2, 10):
            for first in range(count):
                others = [seat for seat in range(count) if seat != first]
                self.assertEqual(sorted(seats_of(count, first)), others)
                for second in others:
                    left = [seat for seat in others if seat != second]
                    self.assertEqual(sorted(seats_of(count, first, second)), left)

    def test_many_houses(self):
        for evening in evenings("seats", 400, most=9):
            wanted = evening.seats()
            self.assertEqual(ask_last(*evening.calls(), seats()), [len(wanted), *wanted])
