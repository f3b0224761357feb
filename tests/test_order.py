"""Precedence, as order tells it."""

import unittest

from tests.calls import apart, ask, ask_last, begin, guest, guests, host, order, rules
from tests.reference import evenings


def order_of(*calls):
    """Who goes first of the guests that the calls tell, without the count."""
    told = ask_last(*calls, order())
    if told[0] != len(told) - 1:
        raise AssertionError(f"{told[0]} are counted in {told}")
    return told[1:]


class HowMany(unittest.TestCase):
    def test_no_guest(self):
        self.assertEqual(ask(order()), [[0]])
        self.assertEqual(ask_last(begin(7), order()), [0])

    def test_one_guest(self):
        for rank in range(11):
            self.assertEqual(ask_last(guest(rank), order()), [1, 0])

    def test_several_and_nine(self):
        for count in range(2, 10):
            told = ask_last(*guests(count), order())
            self.assertEqual(told, [count, *range(count)])

    def test_a_refused_guest_is_not_told(self):
        self.assertEqual(ask_last(guest(), guest(11), guest(companion=4), order()), [1, 0])
        self.assertEqual(ask_last(*guests(9), guest(), order()), [9, *range(9)])


class EachPart(unittest.TestCase):
    def test_rank(self):
        told = order_of(*[guest(rank) for rank in (4, 9, 0, 10, 1, 8)])
        self.assertEqual(told, [2, 4, 0, 5, 1, 3])

    def test_guests_of_other_countries(self):
        told = order_of(begin(4), guest(country=4), guest(country=5), guest(country=4),
                        guest(country=0), guest(country=30), guest(country=4))
        self.assertEqual(told, [1, 3, 4, 0, 2, 5])

    def test_the_house_is_of_country_0_at_the_beginning(self):
        self.assertEqual(order_of(guest(country=0), guest(country=1)), [1, 0])

    def test_which_other_country_is_nothing_to_it(self):
        told = order_of(begin(9), guest(country=20), guest(country=3), guest(country=11))
        self.assertEqual(told, [0, 1, 2])

    def test_the_house_of_the_last_begin(self):
        told = order_of(begin(4), begin(5), begin(31), guest(country=5), guest(country=4))
        self.assertEqual(told, [1, 0])

    def test_the_earlier_day(self):
        told = order_of(*[guest(day=day) for day in (500, 100000, 0, 499, 501)])
        self.assertEqual(told, [2, 3, 0, 4, 1])

    def test_the_lesser_number(self):
        told = order_of(*[guest(3, 7, 2, sex, -1, [sex]) for sex in (1, 0, 1, 0)])
        self.assertEqual(told, [0, 1, 2, 3])

    def test_rank_is_more_than_country_and_day(self):
        told = order_of(begin(1), guest(2, 0, 2), guest(1, 100000, 1))
        self.assertEqual(told, [1, 0])

    def test_country_is_more_than_day(self):
        told = order_of(begin(1), guest(2, 0, 1), guest(2, 100000, 2))
        self.assertEqual(told, [1, 0])

    def test_day_is_more_than_number(self):
        for country in (1, 2):
            told = order_of(begin(1), guest(2, 9, country), guest(2, 8, country))
            self.assertEqual(told, [1, 0])


class WithoutRank(unittest.TestCase):
    def test_alone_they_come_last(self):
        told = order_of(guest(10, 0, 5), guest(9, 9), guest(0, 9), guest(10, 0, 5))
        self.assertEqual(told, [2, 1, 0, 3])

    def test_alone_they_go_by_country_day_and_number(self):
        told = order_of(guest(10, 1, 0), guest(10, 9, 8), guest(10, 0, 0), guest(10, 9, 8),
                        guest(10, 5, 3))
        self.assertEqual(told, [4, 1, 3, 2, 0])

    def test_right_behind_one_told_earlier(self):
        told = order_of(guest(1), guest(0), guest(2), guest(10, companion=1))
        self.assertEqual(told, [1, 3, 0, 2])

    def test_right_behind_one_told_later(self):
        told = order_of(guest(10), guest(1), guest(0, companion=0), guest(2))
        self.assertEqual(told, [2, 0, 1, 3])

    def test_right_behind_one_who_is_last(self):
        told = order_of(guest(10), guest(9, 9, companion=0), guest(9, 8), guest(10))
        self.assertEqual(told, [2, 1, 0, 3])

    def test_their_own_country_and_day_are_nothing_to_it(self):
        # Alone guest 3 would be ahead of guest 2, by country and by day.
        told = order_of(begin(6), guest(4, 50, 1), guest(4, 60, 1), guest(10, 9, 6),
                        guest(10, 0, 1, companion=1))
        self.assertEqual(told, [0, 1, 3, 2])
        told = order_of(begin(6), guest(4, 50, 1), guest(10, 99999, 6, companion=0),
                        guest(4, 50, 1))
        self.assertEqual(told, [0, 1, 2])

    def test_several_pairs(self):
        told = order_of(guest(10), guest(10), guest(10), guest(3, companion=1), guest(5),
                        guest(3, companion=0), guest(0, companion=2), guest(10, companion=4))
        self.assertEqual(told, [6, 2, 3, 1, 5, 0, 4, 7])

    def test_two_without_rank_who_came_with_each_other(self):
        told = order_of(guest(10, 5), guest(10, 7), guest(10, 9, companion=0), guest(9))
        self.assertEqual(told, [3, 0, 1, 2])
        told = order_of(guest(10, 9), guest(10, 7), guest(10, 5, companion=0))
        self.assertEqual(told, [2, 1, 0])

    def test_two_with_ranks_who_came_with_each_other(self):
        told = order_of(guest(0), guest(1), guest(9, companion=0))
        self.assertEqual(told, [0, 1, 2])
        told = order_of(guest(9), guest(1), guest(0, companion=0))
        self.assertEqual(told, [2, 1, 0])

    def test_rank_nine_is_a_rank(self):
        told = order_of(guest(0), guest(9, companion=0), guest(1))
        self.assertEqual(told, [0, 2, 1])
        told = order_of(guest(9), guest(10, companion=0), guest(9))
        self.assertEqual(told, [0, 1, 2])

    def test_nine(self):
        told = order_of(begin(2), guest(10, 4, 2), guest(3, 90, 2), guest(3, 95, 8),
                        guest(10, 1, 8, companion=1), guest(10, 4, 8),
                        guest(0, 100, 2, companion=4), guest(10, 3, 2, companion=0),
                        guest(3, 90, 2), guest(10, 0, 2))
        self.assertEqual(told, [5, 4, 2, 1, 3, 7, 8, 6, 0])


class WhatElseWasTold(unittest.TestCase):
    def test_hosts_stay_in_their_place(self):
        line = [guest(3), guest(10), guest(1, companion=1), guest(2)]
        told = ask(*line, order(), host(0, 3), order(), host(2, 1), order())
        self.assertEqual(told[4:], [[4, 2, 1, 3, 0], [1], [4, 2, 1, 3, 0], [2],
                                    [4, 2, 1, 3, 0]])

    def test_pairs_and_rules_are_nothing_to_it(self):
        told = order_of(guest(1), guest(0, companion=0), apart(0, 1), rules(1, 1, 1, 1))
        self.assertEqual(told, [1, 0])

    def test_later_guests(self):
        told = ask(guest(10), order(), guest(5), order(), guest(6, companion=0), order())
        self.assertEqual(told[1::2], [[1, 0], [2, 1, 0], [3, 1, 2, 0]])

    def test_many_houses(self):
        for evening in evenings("order", 400, most=9):
            self.assertEqual(order_of(*evening.calls()), evening.order())


class ARefusal(unittest.TestCase):
    def test_a_refused_guest_is_nobodys_companion(self):
        told = order_of(guest(10), guest(0), guest(0, companion=0, day=-1), guest(3))
        self.assertEqual(told, [1, 2, 0])

    def test_a_refused_begin_leaves_the_country(self):
        told = order_of(begin(3), begin(31), begin(-1), guest(country=3), guest(country=0))
        self.assertEqual(told, [1, 0])
