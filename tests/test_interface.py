"""The interface: one list of calls in, one list of answers out."""

import unittest

from firstseat.house import answers
from tests.calls import (
    LARGEST, SMALLEST, apart, begin, guest, guests, host, in_one_list, rules,
)

EVENING = [
    begin(4), guest(3, 500, 4, 1, -1, [0, 2]), guest(10, 0, 9, 0, 0, [2]), guest(),
    guest(11), apart(0, 2), apart(2, 2), rules(1, 0, 0, 1), rules(2), host(0, 0),
    host(2, 2), host(1, 1), guest(), begin(31), begin(0), guest(companion=0), guest(),
]
EVENING_TOLD = [
    1, 0, 1, 0, 1, 1, 1, 2, 1, -1, 1, 1, 1, -1, 1, 0, 1, -1, 1, 1, 1, 2, 1, -4, 1, -3,
    1, -1, 1, 0, 1, -4, 1, 0,
]


class Numbers(unittest.TestCase):
    def test_written_out(self):
        self.assertEqual(answers([1, 5]), [1, 0])
        self.assertEqual(answers([1, 31]), [1, -1])
        self.assertEqual(answers([2, 0, 0, 0, 0, -1, 0]), [1, 0])
        self.assertEqual(
            answers([2, 1, 2, 3, 0, -1, 2, 4, 5, 2, 1, 2, 3, 1, 0, 0, 3, 0, 1, 4, 1, 1,
                     5, 0, 1, 0, 1]),
            [1, 0, 1, 1, 1, 1, 1, 1, 1, 0],
        )

    def test_each_place_of_a_guest(self):
        # Each number is beyond the bound of its own place alone, or fits there alone.
        self.assertEqual(answers([2, 10, 100000, 30, 1, -1, 1, 7]), [1, 0])
        self.assertEqual(answers([2, 11, 100000, 30, 1, -1, 1, 7]), [1, -1])
        self.assertEqual(answers([2, 10, 100001, 30, 1, -1, 1, 7]), [1, -1])
        self.assertEqual(answers([2, 10, 100000, 31, 1, -1, 1, 7]), [1, -1])
        self.assertEqual(answers([2, 10, 100000, 30, 2, -1, 1, 7]), [1, -1])
        self.assertEqual(answers([2, 10, 100000, 30, 1, 99, 1, 7]), [1, -4])
        self.assertEqual(answers([2, 10, 100000, 30, 1, -1, 1, 8]), [1, -1])

    def test_a_guest_is_told_ahead_of_a_seat(self):
        pair = in_one_list(guests(2))
        self.assertEqual(answers(pair + [4, 1, 0, 4, 1, 1, 4, 0, 1])[4:],
                         [1, 1, 1, -4, 1, 2])

    def test_many_calls(self):
        self.assertEqual(answers(in_one_list(EVENING)), EVENING_TOLD)

    def test_sixty_calls(self):
        line = [begin(1), *guests(9), rules(1, 1, 1, 1), *[apart(0, 8)] * 41,
                host(8, 8), host(0, 0), host(1, 1), guest(), begin(30), guest(),
                apart(0, 0), host(0, 0)]
        self.assertEqual(len(line), 60)
        wanted = [0, 0, 1, 2, 3, 4, 5, 6, 7, 8, 0, *range(1, 41), -5,
                  1, 2, -4, -3, 0, 0, -1, 1]
        self.assertEqual(answers(in_one_list(line)),
                         [number for told in wanted for number in (1, told)])

    def test_sixty_of_one_kind(self):
        self.assertEqual(answers(begin(3) * 60), [1, 0] * 60)
        self.assertEqual(answers(rules(0, 1, 0, 1) * 60), [1, 0] * 60)
        self.assertEqual(answers(apart(0, 1) * 60), [1, -1] * 60)
        self.assertEqual(answers(host(0, 0) * 60), [1, -1] * 60)
        self.assertEqual(answers(guest() * 60),
                         [number for told in [*range(9)] + [-5] * 51
                          for number in (1, told)])

    def test_sixty_long_lists(self):
        wrong = guest(languages=[0, 1, 2, 3, 4, 5, 6, 7, 0, 1, 2, 3])
        self.assertEqual(answers(wrong * 60), [1, -1] * 60)

    def test_lists_of_every_length_are_passed_over(self):
        for length in range(13):
            with self.subTest(length=length):
                # The languages look like calls; the next call lies behind them.
                languages = [1, 2, 3, 4, 5, 0, 7, 6, 1, 2, 3, 4][:length]
                line = guest(languages=languages) + begin(31) + guest()
                first = [0, -1, 1] if length <= 8 else [-1, -1, 0]
                self.assertEqual(answers(line),
                                 [1, first[0], 1, first[1], 1, first[2]])

    def test_twelve_of_the_largest_and_the_smallest(self):
        for number in (LARGEST, SMALLEST):
            line = guest(languages=[number] * 12) + guest() + begin(number)
            self.assertEqual(answers(line), [1, -1, 1, 0, 1, -1])


class Kinds(unittest.TestCase):
    def test_a_list_of_whole_numbers(self):
        told = answers(in_one_list(EVENING))
        self.assertIs(type(told), list)
        for number in told:
            self.assertIs(type(number), int)


class HandedIn(unittest.TestCase):
    def test_it_stays_as_it_was(self):
        for calls in (EVENING, [begin(31)], guests(10), [guest(languages=[9] * 12)]):
            given = in_one_list(calls)
            before = list(given)
            told = answers(given)
            self.assertEqual(given, before)
            self.assertIsNot(told, given)

    def test_it_is_only_read(self):
        class OnlyRead(list):
            def refuse(self, *anything):
                raise AssertionError("what is handed in was changed")

            __setitem__ = __delitem__ = __iadd__ = __imul__ = refuse
            append = extend = insert = pop = remove = clear = sort = reverse = refuse

        self.assertEqual(answers(OnlyRead(in_one_list(EVENING))), EVENING_TOLD)


class NothingIsKept(unittest.TestCase):
    def test_the_same_list_twice(self):
        given = in_one_list(EVENING)
        self.assertEqual(answers(given), EVENING_TOLD)
        self.assertEqual(answers(given), EVENING_TOLD)

    def test_an_earlier_call_left_no_guests_pairs_or_hosts(self):
        answers(in_one_list([*guests(9), apart(0, 1), host(0, 0), rules(1, 1, 1, 1)]))
        self.assertEqual(answers(apart(0, 1) + host(0, 0)), [1, -1, 1, -1])
        self.assertEqual(
            answers(in_one_list([*guests(2), apart(0, 1), host(0, 0), host(1, 1)])),
            [1, 0, 1, 1, 1, 1, 1, 1, 1, 2],
        )

    def test_who_came_with_whom_is_forgotten(self):
        pair = guest() + guest(companion=0)
        self.assertEqual(answers(pair), [1, 0, 1, 1])
        self.assertEqual(answers(pair), [1, 0, 1, 1])

    def test_what_was_given_back_is_the_callers(self):
        given = in_one_list(EVENING)
        answers(given).clear()
        self.assertEqual(answers(given), EVENING_TOLD)
