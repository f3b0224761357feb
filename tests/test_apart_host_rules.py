"""Promise 2: apart, host and rules."""

import itertools
import unittest

from tests.calls import (
    LARGEST, SMALLEST, apart, ask, ask_last, begin, guest, guests, host, rules,
)


class Apart(unittest.TestCase):
    def test_how_many_were_told(self):
        told = ask(*guests(3), apart(0, 1), apart(1, 2), apart(0, 2))
        self.assertEqual(told[3:], [[1], [2], [3]])

    def test_a_pair_told_again_counts_again_either_way_round(self):
        told = ask(*guests(2), apart(0, 1), apart(0, 1), apart(1, 0), apart(0, 1))
        self.assertEqual(told[2:], [[1], [2], [3], [4]])

    def test_every_pair_of_nine(self):
        pairs = list(itertools.combinations(range(9), 2))
        told = ask(*guests(9), *[apart(one, other) for one, other in pairs])
        self.assertEqual(told[9:], [[count] for count in range(1, 37)])

    def test_every_pair_the_other_way_round(self):
        for one, other in itertools.permutations(range(4), 2):
            self.assertEqual(ask_last(*guests(4), apart(one, other)), [1])

    def test_who_came_with_each_other_may_be_told(self):
        self.assertEqual(ask_last(guest(), guest(companion=0), apart(1, 0)), [1])

    def test_ahead_of_later_guests_and_behind_hosts(self):
        told = ask(*guests(2), apart(0, 1), guest(), apart(2, 0), host(0, 0),
                   apart(0, 1), host(1, 1), apart(1, 0))
        self.assertEqual(told[2:], [[1], [2], [2], [1], [3], [2], [4]])

    def test_not_two_different_guests(self):
        wrong = [(0, 0), (1, 1), (2, 2), (0, 3), (3, 0), (3, 3), (-1, 0), (0, -1),
                 (-1, -1), (1, -2), (2, 9), (9, 10), (SMALLEST, 0), (0, SMALLEST),
                 (LARGEST, 0), (0, LARGEST), (SMALLEST, LARGEST), (LARGEST, LARGEST)]
        for one, other in wrong:
            with self.subTest(one=one, other=other):
                told = ask(*guests(3), apart(one, other), apart(0, 2))
                self.assertEqual(told[3:], [[-1], [1]])

    def test_among_too_few_guests(self):
        self.assertEqual(ask(apart(0, 1), apart(0, 0)), [[-1], [-1]])
        self.assertEqual(ask(guest(), apart(0, 1), apart(1, 0), apart(0, 0))[1:],
                         [[-1]] * 3)

    def test_forty_and_no_more(self):
        told = ask(*guests(3), *[apart(0, 1)] * 40, apart(0, 1), apart(1, 0),
                   apart(1, 2), apart(0, 1))
        self.assertEqual(told[3:43], [[count] for count in range(1, 41)])
        self.assertEqual(told[43:], [[-5]] * 4)

    def test_wrong_guests_are_told_ahead_of_forty(self):
        told = ask(*guests(2), *[apart(1, 0)] * 40, apart(0, 0), apart(0, 2),
                   apart(-1, 0), apart(SMALLEST, LARGEST), apart(0, 1))
        self.assertEqual(told[42:], [[-1], [-1], [-1], [-1], [-5]])

    def test_a_refusal_does_not_count(self):
        told = ask(*guests(2), *[apart(0, 1)] * 39, apart(1, 1), apart(0, 2),
                   apart(0, 1), apart(0, 1))
        self.assertEqual(told[40:], [[39], [-1], [-1], [40], [-5]])

    def test_after_a_begin_all_is_new(self):
        told = ask(*guests(2), *[apart(0, 1)] * 40, begin(), apart(0, 1), *guests(2),
                   apart(0, 1), apart(0, 1))
        self.assertEqual(told[42:], [[0], [-1], [0], [1], [1], [2]])


class Host(unittest.TestCase):
    def test_one_guest(self):
        self.assertEqual(ask(guest(), host(0, 0)), [[0], [1]])

    def test_two_hosts(self):
        told = ask(*guests(4), host(2, 0), host(0, 3))
        self.assertEqual(told[4:], [[1], [2]])

    def test_every_guest_at_every_seat(self):
        for number, seat in itertools.product(range(9), range(9)):
            with self.subTest(number=number, seat=seat):
                told = ask_last(*guests(9), host(number, seat))
                self.assertEqual(told, [1])

    def test_the_second_host_at_every_other_seat(self):
        for number, seat in itertools.product(range(4), range(4)):
            with self.subTest(number=number, seat=seat):
                told = ask_last(*guests(4), host(1, 2), host(number, seat))
                self.assertEqual(told, [-4] if number == 1 or seat == 2 else [2])

    def test_no_such_guest(self):
        for number in (3, 4, 9, -1, -2, -3, SMALLEST, LARGEST):
            with self.subTest(number=number):
                told = ask(*guests(3), host(number, 1), host(0, 1))
                self.assertEqual(told[3:], [[-1], [1]])

    def test_no_such_seat(self):
        for seat in (3, 4, 9, -1, -2, -3, SMALLEST, LARGEST):
            with self.subTest(seat=seat):
                told = ask(*guests(3), host(1, seat), host(1, 0))
                self.assertEqual(told[3:], [[-1], [1]])

    def test_neither_guest_nor_seat(self):
        for number, seat in [(3, 3), (-1, -1), (SMALLEST, LARGEST)]:
            self.assertEqual(ask_last(*guests(3), host(number, seat)), [-1])

    def test_without_guests(self):
        self.assertEqual(ask(host(0, 0), host(-1, -1)), [[-1], [-1]])

    def test_seats_grow_with_the_guests(self):
        told = ask(guest(), host(0, 1), host(1, 0), guest(), host(0, 1), host(1, 0))
        self.assertEqual(told, [[0], [-1], [-1], [1], [1], [2]])

    def test_a_third(self):
        told = ask(*guests(4), host(0, 0), host(1, 1), host(2, 2), host(3, 3))
        self.assertEqual(told[4:], [[1], [2], [-4], [-4]])

    def test_a_third_who_is_a_host_already(self):
        line = [*guests(3), host(0, 0), host(1, 1)]
        for number, seat in [(0, 0), (1, 1), (0, 2), (2, 0), (1, 2), (2, 1)]:
            self.assertEqual(ask_last(*line, host(number, seat)), [-4])

    def test_a_guest_who_is_a_host_already(self):
        told = ask(*guests(2), host(0, 0), host(0, 1), host(0, 0), host(1, 1))
        self.assertEqual(told[2:], [[1], [-4], [-4], [2]])

    def test_a_seat_that_is_a_hosts_already(self):
        told = ask(*guests(3), host(2, 1), host(0, 1), host(0, 2))
        self.assertEqual(told[3:], [[1], [-4], [2]])

    def test_the_host_is_guest_0_at_another_seat(self):
        # A guest's number and a seat's number are two things.
        told = ask(*guests(3), host(0, 2), host(2, 0))
        self.assertEqual(told[3:], [[1], [2]])

    def test_wrong_numbers_are_told_ahead_of_one_that_is_taken(self):
        line = [*guests(3), host(0, 1)]
        for number, seat in [(0, 3), (0, -1), (3, 1), (-1, 1), (LARGEST, 1)]:
            self.assertEqual(ask_last(*line, host(number, seat)), [-1])

    def test_wrong_numbers_are_told_ahead_of_two_hosts(self):
        line = [*guests(3), host(0, 1), host(1, 0)]
        for number, seat in [(2, 3), (3, 2), (-1, 2), (2, -1), (SMALLEST, LARGEST)]:
            self.assertEqual(ask_last(*line, host(number, seat)), [-1])

    def test_nothing_changes_by_a_refusal(self):
        told = ask(guest(), host(0, 1), host(1, 0), guest(), host(0, 0), host(1, 0),
                   host(0, 1), host(2, 1), host(1, 2), host(1, 1), host(0, 1))
        self.assertEqual(told, [[0], [-1], [-1], [1], [1], [-4], [-4], [-1], [-1], [2],
                                [-4]])

    def test_after_a_refusal_guests_may_still_come(self):
        self.assertEqual(ask(guest(), host(0, 1), guest())[1:], [[-1], [1]])

    def test_after_a_begin_all_is_new(self):
        told = ask(*guests(2), host(0, 0), host(1, 1), begin(), host(0, 0), *guests(2),
                   host(0, 0), host(1, 1))
        self.assertEqual(told[4:], [[0], [-1], [0], [1], [1], [2]])

    def test_pairs_and_rules_are_nothing_to_it(self):
        told = ask(guest(), guest(companion=0), apart(0, 1), rules(1, 1, 1, 1),
                   host(0, 0), host(1, 1))
        self.assertEqual(told[2:], [[1], [0], [1], [2]])


class Rules(unittest.TestCase):
    def test_each_in_force_or_not(self):
        for numbers in itertools.product((0, 1), repeat=4):
            self.assertEqual(ask(rules(*numbers)), [[0]])

    def test_again_and_again(self):
        told = ask(rules(1, 1, 1, 1), rules(0, 0, 0, 0), rules(1, 1, 1, 1), rules())
        self.assertEqual(told, [[0]] * 4)

    def test_each_number_wrong_alone(self):
        for place in range(4):
            for number in (-1, 2, -2, 3, SMALLEST, LARGEST):
                for others in (0, 1):
                    numbers = [others] * 4
                    numbers[place] = number
                    with self.subTest(numbers=numbers):
                        told = ask(rules(*numbers), rules())
                        self.assertEqual(told, [[-1], [0]])

    def test_several_numbers_wrong(self):
        wrong = [(2, 2, 2, 2), (-1, -1, -1, -1), (1, 2, -1, 0), (-1, 0, 0, 1),
                 (2, -1, 1, 0), (SMALLEST, LARGEST, SMALLEST, LARGEST)]
        for numbers in wrong:
            self.assertEqual(ask(rules(*numbers)), [[-1]])

    def test_at_any_time(self):
        told = ask(rules(1), guest(), rules(0, 1), guest(), host(0, 0), rules(0, 0, 1),
                   host(1, 1), rules(0, 0, 0, 1), rules(0, 0, 0, 2), begin(), rules())
        self.assertEqual(told, [[0], [0], [0], [1], [1], [0], [2], [0], [-1], [0], [0]])

    def test_guests_pairs_and_hosts_stay_as_they_were(self):
        told = ask(*guests(2), apart(0, 1), host(0, 0), rules(1, 0, 1, 0),
                   rules(0, 2, 0, 0), apart(0, 1), host(0, 1), host(1, 1), guest())
        self.assertEqual(told[4:], [[0], [-1], [2], [-4], [2], [-3]])
