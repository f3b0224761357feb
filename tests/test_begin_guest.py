"""Promise 1: begin and guest."""

import unittest

from tests.calls import (
    LARGEST, SMALLEST, apart, ask, ask_last, begin, guest, guests, host, rules,
)

# Each of these alone is a reason for -1; the guest 0 is there to come with.
WRONG_FIELDS = [
    {"rank": -1}, {"rank": 11}, {"rank": SMALLEST}, {"rank": LARGEST},
    {"day": -1}, {"day": 100001}, {"day": SMALLEST}, {"day": LARGEST},
    {"country": -1}, {"country": 31}, {"country": SMALLEST}, {"country": LARGEST},
    {"sex": -1}, {"sex": 2}, {"sex": SMALLEST}, {"sex": LARGEST},
    {"companion": -2}, {"companion": 100},
    {"companion": SMALLEST}, {"companion": LARGEST},
    {"languages": [-1]}, {"languages": [8]},
    {"languages": [SMALLEST]}, {"languages": [LARGEST]},
    {"languages": [0, 1, 2, 8]}, {"languages": [-1, 0, 1, 2]},
    {"languages": [3, 3]}, {"languages": [3, 5, 3]}, {"languages": [1, 4, 7, 7]},
    {"languages": [0, 0, 1, 2]}, {"languages": [0, 1, 2, 3, 4, 5, 6, 6]},
    {"languages": [0, 1, 2, 3, 4, 5, 6, 7, 0]},
    {"languages": [0, 1, 2, 3, 4, 5, 6, 7, 8]},
    {"languages": [0, 1, 2, 3, 4, 5, 6, 7, 0, 1, 2, 3]},
    {"languages": [0, 1, 2, 3, 4, 5, 6, 7, 8, 9, 10, 11]},
    {"languages": [LARGEST] * 12}, {"languages": [SMALLEST] * 12},
]

RIGHT_FIELDS = [
    {"rank": 0}, {"rank": 1}, {"rank": 9}, {"rank": 10},
    {"day": 0}, {"day": 1}, {"day": 99999}, {"day": 100000},
    {"country": 0}, {"country": 1}, {"country": 29}, {"country": 30},
    {"sex": 0}, {"sex": 1},
    {"companion": -1}, {"companion": 0},
    {"languages": []}, {"languages": [0]}, {"languages": [7]},
    {"languages": [6, 1]}, {"languages": [0, 7, 3]},
    {"languages": [0, 1, 2, 3, 4, 5, 6, 7]},
    {"languages": [7, 6, 5, 4, 3, 2, 1, 0]},
]


class Begin(unittest.TestCase):
    def test_countries_from_0_to_30(self):
        for country in range(31):
            self.assertEqual(ask(begin(country)), [[0]])

    def test_other_countries_are_refused(self):
        for country in (-1, 31, -2, 32, 100, SMALLEST, LARGEST):
            self.assertEqual(ask(begin(country)), [[-1]])

    def test_begin_again_and_again(self):
        self.assertEqual(ask(begin(3), begin(3), begin(30), begin(0)), [[0]] * 4)

    def test_guests_are_gone(self):
        told = ask(begin(1), guest(), guest(), begin(2), guest(), guest())
        self.assertEqual(told, [[0], [0], [1], [0], [0], [1]])

    def test_guests_in_front_of_the_first_begin_are_gone(self):
        self.assertEqual(ask(guest(), guest(), begin(), guest())[2:], [[0], [0]])
        self.assertEqual(ask_last(guest(), begin(), host(0, 0)), [-1])
        self.assertEqual(ask_last(guest(), guest(), begin(), apart(0, 1)), [-1])

    def test_a_full_house_is_emptied(self):
        told = ask(*guests(9), guest(), begin(5), *guests(9), guest())
        numbers = [[number] for number in range(9)]
        self.assertEqual(told, numbers + [[-5], [0]] + numbers + [[-5]])

    def test_who_came_with_whom_is_gone(self):
        told = ask(
            guest(), guest(companion=0), begin(),
            guest(companion=0), guest(), guest(companion=0),
        )
        self.assertEqual(told, [[0], [1], [0], [-4], [0], [1]])

    def test_hosts_are_gone(self):
        told = ask(guest(), host(0, 0), guest(), begin(), guest(), guest())
        self.assertEqual(told, [[0], [1], [-3], [0], [0], [1]])

    def test_pairs_are_gone(self):
        pair = [guest(), guest(), apart(0, 1)]
        self.assertEqual(ask(*pair, begin(), *pair)[-1], [1])

    def test_a_refused_begin_keeps_guests(self):
        for country in (-1, 31, SMALLEST, LARGEST):
            told = ask(guest(), begin(country), guest(companion=0), guest(companion=0))
            self.assertEqual(told, [[0], [-1], [1], [-4]])

    def test_a_refused_begin_keeps_hosts_and_pairs(self):
        told = ask(
            guest(), guest(), apart(0, 1), host(0, 0), begin(31),
            guest(), apart(0, 1), host(0, 1), host(1, 1), begin(-1), host(1, 1),
        )
        self.assertEqual(told[4:], [[-1], [-3], [2], [-4], [2], [-1], [-4]])


class GuestNumbers(unittest.TestCase):
    def test_from_0_on_up_to_nine_guests(self):
        told = ask(begin(7), *guests(9))
        self.assertEqual(told, [[0]] + [[number] for number in range(9)])

    def test_without_any_begin(self):
        self.assertEqual(ask(*guests(3)), [[0], [1], [2]])

    def test_different_guests(self):
        told = ask(
            begin(4),
            guest(rank=3, day=500, country=4, sex=1, languages=[0, 2]),
            guest(rank=10, day=0, country=9, sex=0, companion=0, languages=[2]),
            guest(rank=0, day=100000, country=30, sex=1, languages=[7, 0]),
        )
        self.assertEqual(told, [[0], [0], [1], [2]])

    def test_other_calls_between_count_for_nothing(self):
        told = ask(guest(), rules(1, 1, 1, 1), guest(), apart(0, 1), guest())
        self.assertEqual(told, [[0], [0], [1], [1], [2]])


class GuestBounds(unittest.TestCase):
    def test_what_a_guest_may_have(self):
        for fields in RIGHT_FIELDS:
            with self.subTest(fields=fields):
                told = ask(guest(), guest(**fields), guest())
                self.assertEqual(told, [[0], [1], [2]])

    def test_all_at_their_bounds_together(self):
        least = guest(0, 0, 0, 0, -1, [])
        most = guest(10, 100000, 30, 1, 0, [0, 1, 2, 3, 4, 5, 6, 7])
        self.assertEqual(ask(least, most), [[0], [1]])

    def test_what_a_guest_may_not_have(self):
        for fields in WRONG_FIELDS:
            with self.subTest(fields=fields):
                told = ask(guest(), guest(**fields), guest(companion=0))
                self.assertEqual(told, [[0], [-1], [1]])

    def test_wrong_fields_in_an_empty_house(self):
        for fields in WRONG_FIELDS:
            with self.subTest(fields=fields):
                self.assertEqual(ask(guest(**fields), guest()), [[-1], [0]])

    def test_every_language_alone_and_every_one_twice(self):
        for language in range(8):
            told = ask(guest(languages=[language]), guest(languages=[language] * 2))
            self.assertEqual(told, [[0], [-1]])

    def test_two_guests_may_speak_the_same(self):
        told = ask(guest(languages=[1, 2]), guest(languages=[1, 2]))
        self.assertEqual(told, [[0], [1]])

    def test_the_largest_and_the_smallest_everywhere(self):
        for number in (LARGEST, SMALLEST):
            wrong = guest(number, number, number, number, number, [number] * 12)
            self.assertEqual(ask(wrong, guest()), [[-1], [0]])


class ComingWith(unittest.TestCase):
    def test_the_earlier_guest_may_be_any(self):
        for companion in range(8):
            told = ask_last(*guests(8), guest(companion=companion))
            self.assertEqual(told, [8])

    def test_no_such_guest(self):
        for companion in (2, 3, 8, 9, 10, 50, 98, 99):
            with self.subTest(companion=companion):
                told = ask(guest(), guest(), guest(companion=companion), guest())
                self.assertEqual(told, [[0], [1], [-4], [2]])

    def test_nobody_comes_with_themselves(self):
        self.assertEqual(ask(guest(companion=0), guest()), [[-4], [0]])
        self.assertEqual(ask_last(guest(), guest(companion=1)), [-4])

    def test_neither_of_a_pair_can_be_come_with_again(self):
        told = ask(
            guest(), guest(companion=0), guest(companion=0), guest(companion=1),
            guest(), guest(companion=2), guest(companion=2), guest(companion=3),
        )
        self.assertEqual(told, [[0], [1], [-4], [-4], [2], [3], [-4], [-4]])

    def test_a_pair_whose_first_is_not_guest_0(self):
        told = ask(
            guest(), guest(), guest(), guest(companion=1), guest(companion=1),
            guest(companion=3), guest(companion=0), guest(companion=2),
        )
        self.assertEqual(told, [[0], [1], [2], [3], [-4], [-4], [4], [5]])

    def test_four_pairs_and_one_alone(self):
        told = ask(
            *guests(4), guest(companion=3), guest(companion=2),
            guest(companion=1), guest(companion=0), guest(), begin(),
        )
        self.assertEqual(told, [[number] for number in range(9)] + [[0]])

    def test_rank_and_country_are_nothing_to_it(self):
        told = ask(guest(rank=10), guest(rank=10, country=3, companion=0))
        self.assertEqual(told, [[0], [1]])

    def test_all_taken_one_after_another(self):
        line = [guest(), guest(companion=0), guest(), guest(companion=2)]
        for companion in range(4):
            self.assertEqual(ask(*line, guest(companion=companion), guest())[4:],
                             [[-4], [4]])


class GuestRefusals(unittest.TestCase):
    def test_when_there_is_a_host(self):
        told = ask(guest(), host(0, 0), guest(), guest(companion=0), guest(rank=10))
        self.assertEqual(told, [[0], [1], [-3], [-3], [-3]])

    def test_when_there_are_two_hosts(self):
        told = ask_last(guest(), guest(), host(1, 0), host(0, 1), guest())
        self.assertEqual(told, [-3])

    def test_the_tenth(self):
        told = ask(*guests(9), guest(), guest(companion=8), guest())
        self.assertEqual(told[8:], [[8], [-5], [-5], [-5]])

    def test_wrong_numbers_are_told_ahead_of_a_host(self):
        for fields in WRONG_FIELDS:
            with self.subTest(fields=fields):
                told = ask_last(guest(), host(0, 0), guest(**fields))
                self.assertEqual(told, [-1])

    def test_wrong_numbers_are_told_ahead_of_nine(self):
        for fields in WRONG_FIELDS:
            with self.subTest(fields=fields):
                self.assertEqual(ask_last(*guests(9), guest(**fields)), [-1])

    def test_wrong_numbers_are_told_ahead_of_no_such_guest(self):
        for fields in WRONG_FIELDS:
            with self.subTest(fields=fields):
                wrong = guest(**{"companion": 7, **fields})
                self.assertEqual(ask_last(guest(), wrong), [-1])

    def test_wrong_numbers_are_told_ahead_of_one_come_with(self):
        pair = [guest(), guest(companion=0)]
        for fields in WRONG_FIELDS:
            with self.subTest(fields=fields):
                wrong = guest(**{"companion": 1, **fields})
                self.assertEqual(ask_last(*pair, wrong), [-1])

    def test_a_host_is_told_ahead_of_nine(self):
        told = ask(*guests(9), guest(), host(0, 0), guest())
        self.assertEqual(told[9:], [[-5], [1], [-3]])

    def test_a_host_is_told_ahead_of_with(self):
        line = [guest(), guest(companion=0), host(0, 0)]
        for companion in (0, 1, 2, 99):
            self.assertEqual(ask_last(*line, guest(companion=companion)), [-3])

    def test_nine_are_told_ahead_of_with(self):
        line = [*guests(8), guest(companion=0)]
        for companion in (0, 8, 9, 99):
            self.assertEqual(ask_last(*line, guest(companion=companion)), [-5])

    def test_all_at_once(self):
        line = [*guests(8), guest(companion=0), host(4, 4)]
        told = ask(*line, guest(rank=11, companion=8), guest(companion=8), begin(),
                   *guests(9), guest(companion=9))
        self.assertEqual(told[10:13], [[-1], [-3], [0]])
        self.assertEqual(told[-1], [-5])


class NothingChanges(unittest.TestCase):
    def test_no_number_is_used_up(self):
        told = ask(guest(rank=11), guest(), guest(companion=5), guest(), guest(sex=2),
                   guest())
        self.assertEqual(told, [[-1], [0], [-4], [1], [-1], [2]])

    def test_who_was_named_can_still_be_come_with(self):
        told = ask(
            guest(), guest(companion=0, rank=11), guest(companion=0, languages=[1, 1]),
            guest(companion=0), guest(companion=0),
        )
        self.assertEqual(told, [[0], [-1], [-1], [1], [-4]])

    def test_a_refused_guest_cannot_be_come_with(self):
        told = ask(guest(), guest(day=-1), guest(companion=1), guest(companion=0))
        self.assertEqual(told, [[0], [-1], [-4], [1]])

    def test_a_refused_guest_is_no_guest_and_has_no_seat(self):
        for refused in (guest(rank=11), guest(companion=1)):
            told = ask(guest(), refused, apart(0, 1), host(1, 0), host(0, 1), guest())
            self.assertEqual(told[2:], [[-1], [-1], [-1], [1]])

    def test_a_guest_refused_for_a_host_has_no_seat(self):
        told = ask(guest(), guest(), host(0, 0), guest(), host(1, 2), host(2, 1),
                   apart(0, 2), host(1, 1))
        self.assertEqual(told[3:], [[-3], [-1], [-1], [-1], [2]])

    def test_the_tenth_has_no_seat(self):
        told = ask(*guests(9), guest(), apart(0, 9), host(9, 0), host(0, 9), host(8, 8))
        self.assertEqual(told[9:], [[-5], [-1], [-1], [-1], [1]])

    def test_refusals_do_not_count_among_the_nine(self):
        wrong = [guest(rank=-1), guest(companion=99), guest(languages=[8])] * 4
        told = ask(*wrong, *guests(9), guest())
        self.assertEqual(told, [[-1], [-4], [-1]] * 4
                         + [[number] for number in range(9)] + [[-5]])
