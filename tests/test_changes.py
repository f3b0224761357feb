"""What begin ends and what a refusal leaves, as the asking calls show it."""

import unittest

from tests.calls import (
    apart, ask, begin, check, flags, guest, guests, host, order, plan, rules, seats,
)

ASKED = [order(), seats(), plan(), check([]), check([0]), check([0, 1]), check([0, 1, 2, 3]),
         flags(0), flags(1), flags(2)]

# A house where each thing that is told can be seen: country 4, four guests, a pair, two
# rules and a host.
TOLD = [begin(4), guest(2, 9, 4, 1, -1, [1]), guest(10, 0, 6, 0, 0, [1, 2]),
        guest(2, 9, 5, 1, -1, [2]), guest(1, 3, 4, 0, -1, [1, 2]),
        apart(1, 3), rules(1, 0, 0, 1), host(0, 0)]
SHOWN = [[4, 3, 2, 0, 1], [3, 1, 3, 2], [-6], [-1], [-1], [-1], [1, 0, 1],
         [3, 4, 5, 6], [3, 5, 6, 4], [3, 6, 4, 5]]
EMPTY = [[0], [-2], [-2], [0], [-1], [-1], [-1], [1, 4], [1, 4], [1, 4]]


class Begin(unittest.TestCase):
    def test_it_ends_all(self):
        told = ask(*TOLD, *ASKED, begin(4), *ASKED)
        self.assertEqual(told[8:18], SHOWN)
        self.assertEqual(told[18:], [[0], *EMPTY])

    def test_it_ends_what_came_in_front_of_the_first(self):
        told = ask(*TOLD[1:], begin(4), *ASKED)
        self.assertEqual(told[7:], [[0], *EMPTY])

    def test_it_ends_guests_and_who_came_with_whom(self):
        told = ask(guest(), guest(companion=0), begin(), guest(5), guest(10), guest(6),
                   rules(1), order(), check([0, 1, 2]))
        self.assertEqual(told[-2:], [[3, 0, 2, 1], [0]])

    def test_it_ends_pairs(self):
        told = ask(*guests(2), apart(0, 1), check([0, 1]), begin(), *guests(2),
                   check([0, 1]), host(0, 0), plan())
        self.assertEqual(told[3:], [[2, 0, 1, 1, 0], [0], [0], [1], [0], [1], [2, 0, 1]])

    def test_it_ends_hosts(self):
        told = ask(*guests(2), host(1, 1), seats(), plan(), begin(), *guests(2), seats(),
                   plan(), host(0, 1), seats(), plan())
        self.assertEqual(told[3:], [[1, 0], [2, 0, 1], [0], [0], [1], [-2], [-2], [1],
                                    [1, 0], [2, 1, 0]])

    def test_it_ends_each_rule(self):
        pair = [guest(), guest(companion=0)]
        for number in range(4):
            in_force = [0, 0, 0, 0]
            in_force[number] = 1
            told = ask(*pair, rules(*in_force), check([0, 1]), begin(), *pair,
                       check([0, 1]), host(0, 0), plan())
            wanted = [2, 0, 0, 1, 1] if number == 3 else [2, 0, 1, 1, 0]
            self.assertEqual(told[3], wanted)
            self.assertEqual(told[7:], [[0], [1], [2, 0, 1]])

    def test_it_brings_its_country(self):
        told = ask(flags(0), begin(7), flags(0), begin(30), flags(0))
        self.assertEqual(told[::2], [[1, 0], [1, 7], [1, 30]])


class Refusals(unittest.TestCase):
    def stays(self, line, refused, number):
        """The refused calls leave the answers as they were."""
        told = ask(*line, *ASKED, *refused, *ASKED)[len(line):]
        self.assertEqual(told[len(ASKED):-len(ASKED)], [[number]] * len(refused))
        self.assertEqual(told[-len(ASKED):], told[:len(ASKED)])

    def test_begin(self):
        self.stays(TOLD, [begin(31), begin(-1)], -1)

    def test_guest(self):
        wrong = [guest(11), guest(sex=2), guest(companion=100), guest(languages=[1, 1])]
        self.stays(TOLD, wrong, -1)
        self.stays(TOLD[:-1], wrong, -1)
        self.stays(TOLD, [guest(0, 0, 9), guest(0, 0, 9, 0, 2)], -3)
        self.stays(TOLD[:-1], [guest(0, 0, 9, 0, 0), guest(0, 0, 9, 0, 4)], -4)
        self.stays([*guests(9), rules(1)], [guest(0, 0, 9, 0, 4)], -5)

    def test_apart(self):
        self.stays(TOLD, [apart(0, 4), apart(2, 2), apart(-1, 2)], -1)
        told = ask(*guests(3), *[apart(0, 1)] * 40, apart(1, 2), check([0, 1, 2]))
        self.assertEqual(told[-2:], [[-5], [1, 0, 1]])

    def test_host(self):
        self.stays(TOLD, [host(4, 1), host(1, 4), host(-1, 1), host(1, -1)], -1)
        self.stays(TOLD, [host(0, 1), host(1, 0)], -4)
        self.stays([*TOLD, host(2, 3)], [host(1, 1), host(3, 2)], -4)
        self.stays(TOLD[:-1], [host(4, 1), host(1, 4)], -1)

    def test_rules(self):
        self.stays(TOLD, [rules(0, 0, 0, 2), rules(-1), rules(0, 2), rules(1, 1, -1, 1)], -1)

    def test_the_asking_calls(self):
        self.stays(TOLD, [check([0, 1, 1, 2]), flags(3), flags(-1)], -1)
        self.stays(TOLD[:-1], [seats(), plan()], -2)
        self.stays(TOLD, [plan(), plan()], -6)


class Rules(unittest.TestCase):
    def test_the_last_ones_told_are_in_force(self):
        line = [guest(country=1), guest(country=2), host(0, 0)]
        told = ask(*line, rules(0, 1), plan(), rules(0, 0, 1), plan(), rules(0, 1, 1), plan(),
                   rules(), plan())
        self.assertEqual(told[3:], [[0], [-6], [0], [2, 0, 1], [0], [-6], [0], [2, 0, 1]])


class Asking(unittest.TestCase):
    def test_it_changes_nothing(self):
        told = ask(*TOLD, *ASKED, *ASKED, *ASKED)
        self.assertEqual(told[8:], SHOWN * 3)
