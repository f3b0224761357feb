"""The interface: one list of calls in, one list of answers out."""

import unittest

from firstseat.house import answers
from tests.calls import (
    LARGEST, SMALLEST, apart, begin, check, flags, guest, guests, host, in_one_list, order,
    plan, rules, seats,
)

EVENING = [
    begin(4), guest(3, 500, 4, 1, -1, [0, 2]), guest(10, 0, 9, 0, 0, [2]), guest(),
    guest(11), apart(0, 2), apart(2, 2), rules(1, 0, 0, 1), rules(2), host(0, 0),
    host(2, 2), host(1, 1), guest(), begin(31), begin(0), guest(companion=0), guest(),
]
EVENING_TOLD = [
    1, 0, 1, 0, 1, 1, 1, 2, 1, -1, 1, 1, 1, -1, 1, 0, 1, -1, 1, 1, 1, 2, 1, -4, 1, -3,
    1, -1, 1, 0, 1, -4, 1, 0,
]

# Every call, asked again at several points of the same house and in the next one.
SUPPER = [
    order(), flags(2), seats(), plan(), check([]), begin(2),
    guest(3, 500, 2, 1, -1, [0, 2]), guest(10, 0, 9, 0, 0, [2]), guest(1, 7, 5, 0, -1, [1]),
    guest(3, 900, 7, 1, -1, [0, 1]), guest(11), check([3, 2, 1, 0]), order(),
    apart(1, 2), host(0, 2), seats(), plan(), check([3, 2, 1, 0]), check([3, 2, 1]),
    rules(1, 0, 0, 1), plan(), rules(2), check([0, 1, 2, 3]), flags(2), flags(3), guest(),
    host(2, 1), seats(), plan(), begin(31), order(), begin(1), order(), flags(0), plan(),
    *guests(2), host(1, 0), plan(), check([0, 1]),
]
SUPPER_TOLD = [
    1, 0, 2, 1, 0, 1, -2, 1, -2, 1, 0, 1, 0,
    1, 0, 1, 1, 1, 2, 1, 3, 1, -1, 1, 0, 5, 4, 2, 3, 0, 1,
    1, 1, 1, 1, 4, 3, 3, 1, 0, 5, 4, 3, 1, 0, 2, 3, 1, 2, 1, 1, -1,
    1, 0, 1, -6, 1, -1, 5, 2, 0, 1, 1, 2, 5, 4, 7, 2, 5, 9, 1, -1, 1, -3,
    1, 2, 3, 2, 3, 0, 1, -6, 1, -1, 5, 4, 2, 3, 0, 1, 1, 0, 1, 0, 2, 1, 1, 1, -2,
    1, 0, 1, 1, 1, 1, 3, 2, 1, 0, 1, 0,
]


class Numbers(unittest.TestCase):
    def test_written_out(self):
        self.assertEqual(answers([1, 5]), [1, 0])
        self.assertEqual(answers([1, 31]), [1, -1])
        self.assertEqual(answers([2, 0, 0, 0, 0, -1, 0]), [1, 0])
        self.assertEqual(
            answers([2, 1, 2, 3, 0, -1, 2, 4, 5, 2, 1, 2, 3, 1, 0, 0, 3, 0, 1, 4, 1, 1,
                     5, 0, 1, 0, 1]),
            [1, 0, 1, 1, 1, 1, 1, 1, 1, 0],
        )

    def test_the_asking_calls_written_out(self):
        pair = [2, 1, 0, 3, 0, -1, 0, 2, 0, 0, 4, 0, -1, 0]
        self.assertEqual(answers(pair + [6]), [1, 0, 1, 1, 3, 2, 1, 0])
        self.assertEqual(answers(pair + [7, 4, 0, 1, 7])[4:], [1, -2, 1, 1, 2, 1, 0])
        self.assertEqual(answers(pair + [8, 4, 0, 1, 8])[4:], [1, -2, 1, 1, 3, 2, 1, 0])
        self.assertEqual(answers(pair + [3, 0, 1, 4, 0, 1, 8])[4:], [1, 1, 1, 1, 1, -6])
        self.assertEqual(answers(pair + [9, 2, 1, 0, 5, 0, 1, 0, 0, 9, 2, 1, 0])[4:],
                         [1, 0, 1, 0, 5, 2, 1, 0, 0, 1])
        self.assertEqual(answers(pair + [9, 1, 0, 9, 0])[4:], [1, -1, 1, -1])
        self.assertEqual(answers(pair + [10, 2, 10, 1, 10, 3])[4:],
                         [4, 3, 4, 0, 3, 4, 3, 3, 4, 0, 1, -1])
        self.assertEqual(answers([6, 9, 0, 10, 0]), [1, 0, 1, 0, 2, 1, 0])

    def test_each_place_of_rules(self):
        # One guest alone sits badly by rules 1 and 2, and by 3 without a language.
        one = [2, 0, 0, 0, 0, -1, 0, 4, 0, 0]
        for place, wanted in enumerate(([2, 1, 0], [1, -6], [1, -6], [1, -6])):
            in_force = [0, 0, 0, 0]
            in_force[place] = 1
            self.assertEqual(answers(one + [5, *in_force, 8])[6:], wanted)

    def test_each_place_of_a_guest(self):
        # Each number is beyond the bound of its own place alone, or fits there alone.
        self.assertEqual(answers([2, 10, 100000, 30, 1, -1, 1, 7]), [1, 0])
        self.assertEqual(answers([2, 11, 100000, 30, 1, -1, 1, 7]), [1, -1])
        self.assertEqual(answers([2, 10, 100001, 30, 1, -1, 1, 7]), [1, -1])
        self.assertEqual(answers([2, 10, 100000, 31, 1, -1, 1, 7]), [1, -1])
        self.assertEqual(answers([2, 10, 100000, 30, 2, -1, 1, 7]), [1, -1])
        self.assertEqual(answers([2, 10, 100000, 30, 1, 99, 1, 7]), [1, -4])
        self.assertEqual(answers([2, 10, 100000, 30, 1, -1, 1, 8]), [1, -1])

    def test_a_guest_is_told_ahead_of_a_seat(self):
        pair = in_one_list(guests(2))
        self.assertEqual(answers(pair + [4, 1, 0, 4, 1, 1, 4, 0, 1])[4:],
                         [1, 1, 1, -4, 1, 2])

    def test_many_calls(self):
        self.assertEqual(answers(in_one_list(EVENING)), EVENING_TOLD)
        self.assertEqual(answers(in_one_list(SUPPER)), SUPPER_TOLD)

    def test_sixty_calls_with_long_answers(self):
        line = [*guests(9), host(0, 0), rules(0, 1), *[check(range(9))] * 49]
        told = answers(in_one_list(line))
        pairs = [number for seat in range(9) for number in (seat, (seat + 1) % 9)]
        self.assertEqual(told[22:], [19, 9, *pairs] * 49)

    def test_sixty_calls(self):
        line = [begin(1), *guests(9), rules(1, 1, 1, 1), *[apart(0, 8)] * 41,
                host(8, 8), host(0, 0), host(1, 1), guest(), begin(30), guest(),
                apart(0, 0), host(0, 0)]
        self.assertEqual(len(line), 60)
        wanted = [0, 0, 1, 2, 3, 4, 5, 6, 7, 8, 0, *range(1, 41), -5,
                  1, 2, -4, -3, 0, 0, -1, 1]
        self.assertEqual(answers(in_one_list(line)),
                         [number for told in wanted for number in (1, told)])

    def test_sixty_of_one_kind(self):
        self.assertEqual(answers(begin(3) * 60), [1, 0] * 60)
        self.assertEqual(answers(rules(0, 1, 0, 1) * 60), [1, 0] * 60)
        self.assertEqual(answers(apart(0, 1) * 60), [1, -1] * 60)
        self.assertEqual(answers(host(0, 0) * 60), [1, -1] * 60)
        self.assertEqual(answers(order() * 60), [1, 0] * 60)
        self.assertEqual(answers(seats() * 60), [1, -2] * 60)
        self.assertEqual(answers(plan() * 60), [1, -2] * 60)
        self.assertEqual(answers(check([]) * 60), [1, 0] * 60)
        self.assertEqual(answers(flags(1) * 60), [2, 1, 0] * 60)
        self.assertEqual(answers(guest() * 60),
                         [number for told in [*range(9)] + [-5] * 51
                          for number in (1, told)])

    def test_sixty_long_lists(self):
        wrong = guest(languages=[0, 1, 2, 3, 4, 5, 6, 7, 0, 1, 2, 3])
        self.assertEqual(answers(wrong * 60), [1, -1] * 60)
        self.assertEqual(answers(check(range(12)) * 60), [1, -1] * 60)

    def test_lists_of_every_length_are_passed_over(self):
        for length in range(13):
            with self.subTest(length=length):
                # The languages look like calls; the next call lies behind them.
                languages = [1, 2, 3, 4, 5, 0, 7, 6, 1, 2, 3, 4][:length]
                line = guest(languages=languages) + begin(31) + guest()
                first = [0, -1, 1] if length <= 8 else [-1, -1, 0]
                self.assertEqual(answers(line),
                                 [1, first[0], 1, first[1], 1, first[2]])

    def test_lists_of_check_of_every_length_are_passed_over(self):
        for length in range(13):
            with self.subTest(length=length):
                sitting = [9, 2, 1, 0, 6, 7, 8, 10, 5, 4, 3, 2][:length]
                told = answers(check(sitting) + order() + check(sitting) + flags(0))
                first = [1, 0] if length == 0 else [1, -1]
                self.assertEqual(told, [*first, 1, 0, *first, 2, 1, 0])

    def test_twelve_of_the_largest_and_the_smallest(self):
        for number in (LARGEST, SMALLEST):
            line = check([number] * 12) + flags(number) + check([]) + flags(0)
            self.assertEqual(answers(line), [1, -1, 1, -1, 1, 0, 2, 1, 0])
            line = guest(languages=[number] * 12) + guest() + begin(number)
            self.assertEqual(answers(line), [1, -1, 1, 0, 1, -1])


class Kinds(unittest.TestCase):
    def test_a_list_of_whole_numbers(self):
        for calls in (EVENING, SUPPER):
            told = answers(in_one_list(calls))
            self.assertIs(type(told), list)
            for number in told:
                self.assertIs(type(number), int)


class HandedIn(unittest.TestCase):
    def test_it_stays_as_it_was(self):
        for calls in (EVENING, SUPPER, [begin(31)], [check(range(12))], guests(10), [guest(languages=[9] * 12)]):
            given = in_one_list(calls)
            before = list(given)
            told = answers(given)
            self.assertEqual(given, before)
            self.assertIsNot(told, given)

    def test_it_is_only_read(self):
        class OnlyRead(list):
            def refuse(self, *anything):
                raise AssertionError("what is handed in was changed")

            __setitem__ = __delitem__ = __iadd__ = __imul__ = refuse
            append = extend = insert = pop = remove = clear = sort = reverse = refuse

        self.assertEqual(answers(OnlyRead(in_one_list(EVENING))), EVENING_TOLD)
        self.assertEqual(answers(OnlyRead(in_one_list(SUPPER))), SUPPER_TOLD)


class NothingIsKept(unittest.TestCase):
    def test_the_same_list_twice(self):
        given = in_one_list(EVENING)
        self.assertEqual(answers(given), EVENING_TOLD)
        self.assertEqual(answers(given), EVENING_TOLD)

    def test_the_same_list_twice_and_another_between(self):
        given = in_one_list(SUPPER)
        self.assertEqual(answers(given), SUPPER_TOLD)
        self.assertEqual(answers(in_one_list(EVENING)), EVENING_TOLD)
        self.assertEqual(answers(given), SUPPER_TOLD)

    def test_an_earlier_call_left_no_country_or_rules(self):
        answers(in_one_list([begin(9), guest(), rules(1, 1, 1, 1), host(0, 0)]))
        self.assertEqual(answers(flags(0) + guest() + host(0, 0) + plan()),
                         [2, 1, 0, 1, 0, 1, 1, 2, 1, 0])

    def test_an_earlier_call_left_no_guests_pairs_or_hosts(self):
        answers(in_one_list([*guests(9), apart(0, 1), host(0, 0), rules(1, 1, 1, 1)]))
        self.assertEqual(answers(apart(0, 1) + host(0, 0)), [1, -1, 1, -1])
        self.assertEqual(
            answers(in_one_list([*guests(2), apart(0, 1), host(0, 0), host(1, 1)])),
            [1, 0, 1, 1, 1, 1, 1, 1, 1, 2],
        )

    def test_who_came_with_whom_is_forgotten(self):
        pair = guest() + guest(companion=0)
        self.assertEqual(answers(pair), [1, 0, 1, 1])
        self.assertEqual(answers(pair), [1, 0, 1, 1])

    def test_what_was_given_back_is_the_callers(self):
        given = in_one_list(EVENING)
        answers(given).clear()
        self.assertEqual(answers(given), EVENING_TOLD)
