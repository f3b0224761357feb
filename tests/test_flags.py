"""The countries' flags in a row."""

import unittest

from tests.calls import (
    LARGEST, SMALLEST, ask, ask_last, begin, flags, guest, guests, host, rules,
)


def rows_of(own, *countries):
    """The three ways of the row, without their counts."""
    line = [begin(own), *[guest(country=country) for country in countries]]
    rows = ask(*line, flags(0), flags(1), flags(2))[len(line):]
    for row in rows:
        if row[0] != len(row) - 1:
            raise AssertionError(f"{row[0]} are counted in {row}")
    return [row[1:] for row in rows]


class Refused(unittest.TestCase):
    def test_ways_but_0_to_2(self):
        for way in (-1, 3, -2, 4, 100, SMALLEST, LARGEST):
            self.assertEqual(ask(flags(way), flags(0)), [[-1], [1, 0]])
            self.assertEqual(ask_last(*guests(9), host(0, 0), flags(way)), [-1])

    def test_nothing_changes(self):
        told = ask(begin(3), guest(country=5), flags(3), flags(0), flags(-1), flags(1))
        self.assertEqual(told[2:], [[-1], [2, 3, 5], [-1], [2, 5, 3]])


class TheOwnAlone(unittest.TestCase):
    def test_no_guests(self):
        self.assertEqual(ask(flags(0), flags(1), flags(2)), [[1, 0]] * 3)
        for own in range(31):
            self.assertEqual(rows_of(own), [[own]] * 3)

    def test_guests_of_the_houses_country_alone(self):
        self.assertEqual(rows_of(8, 8), [[8]] * 3)
        self.assertEqual(rows_of(8, 8, 8, 8), [[8]] * 3)


class Others(unittest.TestCase):
    def test_one(self):
        self.assertEqual(rows_of(5, 9), [[5, 9], [9, 5], [5, 9]])
        self.assertEqual(rows_of(9, 5), [[9, 5], [5, 9], [9, 5]])

    def test_two(self):
        self.assertEqual(rows_of(5, 9, 2), [[5, 2, 9], [2, 9, 5], [9, 5, 2]])

    def test_three(self):
        self.assertEqual(rows_of(5, 9, 2, 7), [[5, 2, 7, 9], [2, 7, 9, 5], [7, 5, 2, 9]])

    def test_four(self):
        self.assertEqual(rows_of(0, 4, 3, 2, 1),
                         [[0, 1, 2, 3, 4], [1, 2, 3, 4, 0], [4, 2, 0, 1, 3]])

    def test_five(self):
        self.assertEqual(rows_of(3, 1, 30, 2, 5, 4),
                         [[3, 1, 2, 4, 5, 30], [1, 2, 4, 5, 30, 3], [5, 2, 3, 1, 4, 30]])

    def test_eight(self):
        self.assertEqual(rows_of(20, 28, 17, 26, 15, 24, 13, 22, 11, 20), [
            [20, 11, 13, 15, 17, 22, 24, 26, 28],
            [11, 13, 15, 17, 22, 24, 26, 28, 20],
            [28, 24, 17, 13, 20, 11, 15, 22, 26],
        ])

    def test_nine(self):
        self.assertEqual(rows_of(10, 9, 8, 7, 6, 5, 4, 3, 2, 1), [
            [10, 1, 2, 3, 4, 5, 6, 7, 8, 9],
            [1, 2, 3, 4, 5, 6, 7, 8, 9, 10],
            [8, 6, 4, 2, 10, 1, 3, 5, 7, 9],
        ])

    def test_a_country_of_several_guests_once(self):
        self.assertEqual(rows_of(5, 9, 2, 9, 5, 2, 9), [[5, 2, 9], [2, 9, 5], [9, 5, 2]])
        self.assertEqual(rows_of(1, 0, 0, 0), [[1, 0], [0, 1], [1, 0]])

    def test_rising_by_number(self):
        # As texts 10 and 30 would stand ahead of 4.
        self.assertEqual(rows_of(2, 30, 4, 10)[0], [2, 4, 10, 30])


class WhatElseWasTold(unittest.TestCase):
    def test_precedence_and_hosts_are_nothing_to_it(self):
        line = [begin(6), guest(0, country=9), guest(5, country=4), guest(10, 0, 7, 0, 0),
                rules(0, 0, 1), host(1, 0)]
        self.assertEqual(ask_last(*line, flags(2)), [4, 7, 6, 4, 9])

    def test_a_refused_guest_is_none(self):
        self.assertEqual(ask_last(guest(country=4), guest(11, country=5), flags(0)), [2, 0, 4])

    def test_later_guests_and_houses(self):
        told = ask(guest(country=4), flags(0), guest(country=2), flags(0), begin(31), flags(0),
                   begin(2), flags(0), guest(country=4), flags(1))
        self.assertEqual(told[1::2], [[2, 0, 4], [3, 0, 2, 4], [3, 0, 2, 4], [1, 2],
                                      [2, 4, 2]])
