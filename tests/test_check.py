"""What a plan breaks, as check tells it."""

import itertools
import random
import unittest

from tests.calls import (
    LARGEST, SMALLEST, apart, ask, ask_last, begin, check, guest, guests, host, plan, rules,
)
from tests.reference import evenings


def broken(sitting, *calls):
    """The pairs that check tells of this sitting, without their count."""
    told = ask_last(*calls, check(sitting))
    if told[0] != (len(told) - 1) / 2:
        raise AssertionError(f"{told[0]} are counted in {told}")
    return list(zip(told[1::2], told[2::2]))


class NotEachGuestJustOnce(unittest.TestCase):
    def test_wrong_lists(self):
        wrong = [
            [], [0], [0, 1], [1, 2], [0, 1, 2, 3], [0, 1, 2, 0], [0, 1, 1], [0, 0, 1, 2],
            [2, 2, 2], [0, 1, 3], [1, 2, 3], [-1, 0, 1], [0, 1, -1], [0, 1, 2, -1],
            [3, 1, 2], [0, 1, 9], [0, 1, SMALLEST], [LARGEST, 1, 2], [-3, -2, -1],
            [0, 1, 2, 0, 1, 2, 0, 1, 2, 0, 1, 2], list(range(12)), [LARGEST] * 12,
            [SMALLEST] * 12, [0] * 12,
        ]
        for sitting in wrong:
            with self.subTest(sitting=sitting):
                told = ask(*guests(3), check(sitting), check([2, 0, 1]))
                self.assertEqual(told[3:], [[-1], [0]])

    def test_every_length_but_that_of_the_guests(self):
        for count, length in itertools.product(range(10), range(13)):
            with self.subTest(count=count, length=length):
                told = ask_last(*guests(count), check(list(range(length))))
                self.assertEqual(told, [0] if length == count else [-1])

    def test_nine_with_one_twice(self):
        for twice in range(8):
            sitting = [0, 1, 2, 3, 4, 5, 6, 7, twice]
            self.assertEqual(ask_last(*guests(9), check(sitting)), [-1])

    def test_a_refused_guest_is_not_to_be_told(self):
        told = ask(guest(), guest(11), check([0, 1]), check([0]))
        self.assertEqual(told[2:], [[-1], [0]])

    def test_whatever_is_broken(self):
        line = [*guests(2), apart(0, 1), rules(1, 1, 1, 1)]
        self.assertEqual(ask_last(*line, check([0, 0])), [-1])
        self.assertEqual(ask_last(*line, check([0, 1])), [4, 0, 1, 1, 0, 0, 0, 1, 1])


class NoGuest(unittest.TestCase):
    def test_the_empty_list_is_right(self):
        self.assertEqual(ask(check([])), [[0]])
        self.assertEqual(ask_last(rules(1, 1, 1, 1), check([])), [0])
        self.assertEqual(ask_last(*guests(3), begin(), check([])), [0])

    def test_any_other_is_wrong(self):
        for sitting in ([0], [-1], [1], [0, 1], [0] * 12):
            self.assertEqual(ask(check(sitting)), [[-1]])


class AnyOrder(unittest.TestCase):
    def test_nothing_is_broken_without_pairs_and_rules(self):
        line = [guest(), guest(companion=0), guest(), guest()]
        for sitting in itertools.permutations(range(4)):
            self.assertEqual(ask_last(*line, check(sitting)), [0])

    def test_with_a_host_or_without(self):
        line = [*guests(4), apart(0, 1)]
        for more in ([], [host(0, 0)], [host(0, 3), host(2, 1)]):
            self.assertEqual(broken([0, 1, 2, 3], *line, *more), [(0, 1)])

    def test_hosts_need_not_have_their_own_seats(self):
        told = ask(*guests(3), host(0, 0), host(1, 1), check([2, 0, 1]), check([0, 1, 2]))
        self.assertEqual(told[5:], [[0], [0]])

    def test_a_plan_that_is_told_breaks_nothing(self):
        told = ask(*guests(5), apart(0, 1), apart(2, 4), host(0, 0), plan())
        self.assertEqual(ask_last(*guests(5), apart(0, 1), apart(2, 4), check(told[-1][1:])),
                         [0])


class Pairs(unittest.TestCase):
    def test_told_apart(self):
        line = [*guests(4), apart(3, 1)]
        self.assertEqual(broken([0, 1, 3, 2], *line), [(1, 3)])
        self.assertEqual(broken([0, 3, 1, 2], *line), [(3, 1)])
        self.assertEqual(broken([0, 1, 2, 3], *line), [])

    def test_told_again_it_is_one_pair(self):
        line = [*guests(4), apart(0, 1), apart(1, 0), apart(0, 1)]
        self.assertEqual(broken([0, 1, 2, 3], *line), [(0, 1)])

    def test_who_came_with_each_other(self):
        line = [guest(), guest(), guest(companion=0), guest()]
        self.assertEqual(broken([0, 2, 1, 3], *line), [])
        line = [*line, rules(1)]
        self.assertEqual(broken([0, 2, 1, 3], *line), [(0, 2)])
        self.assertEqual(broken([1, 2, 0, 3], *line), [(2, 0)])
        self.assertEqual(broken([0, 1, 2, 3], *line), [])

    def test_two_of_one_sex(self):
        line = [guest(sex=sex) for sex in (0, 1, 1, 0)] + [rules(0, 1)]
        self.assertEqual(broken([0, 1, 2, 3], *line), [(1, 2), (3, 0)])
        self.assertEqual(broken([0, 1, 3, 2], *line), [])

    def test_two_of_one_country(self):
        line = [guest(country=country) for country in (7, 7, 0, 3)] + [rules(0, 0, 1)]
        self.assertEqual(broken([0, 1, 2, 3], *line), [(0, 1)])
        self.assertEqual(broken([0, 2, 1, 3], *line), [])

    def test_from_seat_0_on(self):
        line = [*guests(5), apart(3, 4), apart(0, 1), apart(1, 2)]
        self.assertEqual(broken([0, 1, 2, 3, 4], *line), [(0, 1), (1, 2), (3, 4)])
        self.assertEqual(broken([4, 3, 2, 1, 0], *line), [(4, 3), (2, 1), (1, 0)])

    def test_from_the_last_seat_to_seat_0(self):
        line = [*guests(4), apart(0, 3), apart(1, 2)]
        self.assertEqual(broken([0, 1, 2, 3], *line), [(1, 2), (3, 0)])
        self.assertEqual(broken([3, 1, 2, 0], *line), [(1, 2), (0, 3)])

    def test_by_several_rules_it_is_one_pair(self):
        line = [guest(country=1), guest(country=1, companion=0), guest(sex=1), apart(0, 1),
                rules(1, 1, 1)]
        self.assertEqual(broken([0, 1, 2], *line), [(0, 1)])

    def test_each_pair_by_a_rule_of_its_own(self):
        line = [guest(0, 0, 1, 0), guest(0, 0, 2, 1, 0), guest(0, 0, 3, 1), guest(0, 0, 3, 0),
                guest(0, 0, 4, 1), apart(4, 0)]
        for in_force in itertools.product((0, 1), repeat=3):
            wanted = [pair for pair, rule in zip([(0, 1), (1, 2), (2, 3)], in_force) if rule]
            told = broken([0, 1, 2, 3, 4], *line, rules(*in_force))
            self.assertEqual(told, wanted + [(4, 0)])

    def test_all_of_nine(self):
        told = broken(list(range(9)), *guests(9), rules(0, 1))
        self.assertEqual(told, [(one, (one + 1) % 9) for one in range(9)])


class Words(unittest.TestCase):
    def spoken(self, *tongues):
        return [guest(languages=languages) for languages in tongues] + [rules(0, 0, 0, 1)]

    def test_who_has_none_in_common(self):
        line = self.spoken([0], [0], [1], [2])
        self.assertEqual(broken([0, 1, 2, 3], *line), [(2, 2), (3, 3)])
        self.assertEqual(broken([3, 0, 2, 1], *line), [(3, 3), (0, 0), (2, 2), (1, 1)])

    def test_one_neighbour_is_enough(self):
        line = self.spoken([0], [0, 1], [1], [5])
        self.assertEqual(broken([0, 1, 2, 3], *line), [(3, 3)])
        self.assertEqual(broken([2, 1, 0, 3], *line), [(3, 3)])

    def test_of_seat_0_and_the_last(self):
        line = self.spoken([4], [1], [1], [4])
        self.assertEqual(broken([0, 1, 2, 3], *line), [])
        self.assertEqual(broken([0, 1, 3, 2], *line), [(0, 0), (1, 1), (3, 3), (2, 2)])

    def test_one_of_several_languages(self):
        line = self.spoken([7, 3, 1], [0, 2, 3], [4, 5, 6], [6])
        self.assertEqual(broken([0, 1, 2, 3], *line), [])

    def test_who_speaks_none(self):
        line = self.spoken([], [1], [1], [])
        self.assertEqual(broken([0, 1, 2, 3], *line), [(0, 0), (3, 3)])
        self.assertEqual(broken([0, 3, 2, 1], *line), [(0, 0), (3, 3)])

    def test_only_where_the_rule_is_in_force(self):
        told = ask(*guests(3), check([0, 1, 2]), rules(0, 0, 0, 1), check([2, 1, 0]),
                   rules(), check([0, 1, 2]))
        self.assertEqual(told[3:], [[0], [0], [3, 2, 2, 1, 1, 0, 0], [0], [0]])

    def test_they_come_behind_the_pairs(self):
        line = [*self.spoken([0], [1], [2], [1]), apart(2, 3), apart(0, 1)]
        self.assertEqual(broken([0, 1, 2, 3], *line),
                         [(0, 1), (2, 3), (0, 0), (1, 1), (2, 2), (3, 3)])
        self.assertEqual(broken([2, 3, 1, 0], *line), [(2, 3), (1, 0), (2, 2), (0, 0)])

    def test_all_of_nine(self):
        told = ask_last(*guests(9), rules(1, 1, 1, 1), check([8, 7, 6, 5, 4, 3, 2, 1, 0]))
        self.assertEqual(told, [18, 8, 7, 7, 6, 6, 5, 5, 4, 4, 3, 3, 2, 2, 1, 1, 0, 0, 8,
                                8, 8, 7, 7, 6, 6, 5, 5, 4, 4, 3, 3, 2, 2, 1, 1, 0, 0])


class TwoGuests(unittest.TestCase):
    def test_each_pair_is_told_from_both_seats(self):
        line = [guest(), guest(companion=0)]
        for more in ([apart(0, 1)], [rules(1)], [rules(0, 1)], [rules(0, 0, 1)],
                     [rules(1, 1, 1), apart(1, 0)]):
            self.assertEqual(broken([0, 1], *line, *more), [(0, 1), (1, 0)])
            self.assertEqual(broken([1, 0], *line, *more), [(1, 0), (0, 1)])

    def test_without_a_word_in_common(self):
        line = [guest(languages=[0]), guest(languages=[1]), rules(0, 0, 0, 1)]
        self.assertEqual(broken([0, 1], *line), [(0, 0), (1, 1)])
        self.assertEqual(broken([1, 0], *line), [(1, 1), (0, 0)])

    def test_they_sit_well(self):
        line = [guest(0, 0, 1, 0, -1, [1]), guest(0, 0, 2, 1, -1, [1])]
        self.assertEqual(broken([1, 0], *line, rules(1, 1, 1, 1)), [])


class OneGuestAlone(unittest.TestCase):
    def test_under_each_rule(self):
        for tongues in ([], [4], [0, 7]):
            for in_force in itertools.product((0, 1), repeat=4):
                with self.subTest(tongues=tongues, in_force=in_force):
                    line = [guest(2, 3, 4, 1, -1, tongues), rules(*in_force)]
                    wanted = [(0, 0)] if in_force[1] or in_force[2] else []
                    if in_force[3] and not tongues:
                        wanted = wanted + [(0, 0)]
                    self.assertEqual(broken([0], *line), wanted)


class NothingChanges(unittest.TestCase):
    def test_by_a_check_right_or_wrong(self):
        told = ask(*guests(3), apart(0, 1), check([0, 0, 0]), check([0, 1, 2]),
                   check([0, 0, 0]), check([0, 1, 2]), guest(), check([0, 2, 1, 3]),
                   host(0, 0), plan())
        self.assertEqual(told[4:], [[-1], [1, 0, 1], [-1], [1, 0, 1], [3], [0], [1],
                                    [4, 0, 2, 1, 3]])


class EveryOrderTried(unittest.TestCase):
    def test_many_houses(self):
        draw = random.Random("check")
        for evening in evenings("check", 500, most=9):
            sitting = draw.sample(range(len(evening.people)), len(evening.people))
            self.assertEqual(broken(sitting, *evening.calls()), evening.breaks(sitting))
