"""The plan: the first one by precedence in which all sit well."""

import itertools
import time
import unittest

from tests.calls import apart, ask, ask_last, begin, check, guest, guests, host, plan, rules
from tests.reference import Evening, evenings

# Well under a minute, on a slow machine too.
SECONDS = 30


def plan_of(*calls):
    """Who sits at each seat, without the count; None where there's no plan."""
    told = ask_last(*calls, plan())
    if told == [-6]:
        return None
    if told[0] != len(told) - 1:
        raise AssertionError(f"{told[0]} are counted in {told}")
    return told[1:]


class Refused(unittest.TestCase):
    def test_without_a_host(self):
        for count in range(10):
            self.assertEqual(ask_last(*guests(count), plan()), [-2])

    def test_no_host_is_told_ahead_of_no_plan(self):
        told = ask(*guests(3), rules(1, 1, 1, 1), plan(), host(0, 0), plan())
        self.assertEqual(told[4:], [[-2], [1], [-6]])

    def test_a_refused_host_is_none(self):
        told = ask(*guests(2), host(2, 0), plan(), host(0, 2), plan(), host(0, 1), plan())
        self.assertEqual(told[2:], [[-1], [-2], [-1], [-2], [1], [2, 1, 0]])

    def test_where_there_is_none(self):
        told = ask(*guests(3), host(0, 0), plan(), apart(1, 2), plan(), plan())
        self.assertEqual(told[4:], [[3, 0, 1, 2], [1], [-6], [-6]])


class ByHonour(unittest.TestCase):
    def test_one_host(self):
        self.assertEqual(plan_of(*guests(3), host(0, 0)), [0, 1, 2])
        self.assertEqual(plan_of(*guests(4), host(0, 0)), [0, 1, 3, 2])
        self.assertEqual(plan_of(*guests(5), host(0, 0)), [0, 1, 3, 4, 2])
        self.assertEqual(plan_of(*guests(5), host(2, 3)), [3, 4, 1, 2, 0])

    def test_two_hosts(self):
        self.assertEqual(plan_of(*guests(3), host(2, 0), host(0, 1)), [2, 0, 1])
        self.assertEqual(plan_of(*guests(6), host(0, 0), host(1, 3)), [0, 2, 5, 1, 3, 4])
        self.assertEqual(plan_of(*guests(6), host(1, 3), host(0, 0)), [0, 3, 4, 1, 2, 5])

    def test_by_rank(self):
        line = [guest(rank) for rank in (0, 4, 3, 2, 1)]
        self.assertEqual(plan_of(*line, host(0, 0)), [0, 4, 2, 1, 3])
        self.assertEqual(plan_of(*line, host(3, 4)), [0, 2, 1, 4, 3])

    def test_by_country_and_day(self):
        line = [begin(4), guest(1, 0, 4), guest(1, 9, 7), guest(1, 8, 7), guest(1, 1, 4)]
        self.assertEqual(plan_of(*line, host(0, 0)), [0, 2, 3, 1])

    def test_who_came_with_somebody_stands_behind_them(self):
        line = [guest(5), guest(10), guest(2, companion=1), guest(3)]
        self.assertEqual(plan_of(*line, host(0, 0)), [0, 2, 3, 1])

    def test_who_came_with_a_host_stands_behind_the_host(self):
        line = [guest(2), guest(1), guest(3), guest(10, companion=0)]
        self.assertEqual(plan_of(*line, host(0, 0)), [0, 1, 2, 3])
        self.assertEqual(plan_of(*line, rules(1), host(0, 0)), [0, 1, 3, 2])

    def test_all_the_guests_are_hosts(self):
        self.assertEqual(plan_of(*guests(2), host(1, 0), host(0, 1)), [1, 0])

    def test_nine(self):
        self.assertEqual(plan_of(*guests(9), host(0, 0)), [0, 1, 3, 5, 7, 8, 6, 4, 2])
        self.assertEqual(plan_of(*guests(9), host(8, 8)), [0, 2, 4, 6, 7, 5, 3, 1, 8])
        self.assertEqual(plan_of(*guests(9), host(0, 0), host(1, 4)),
                         [0, 2, 6, 5, 1, 3, 7, 8, 4])


class Apart(unittest.TestCase):
    def test_two_of_the_others(self):
        self.assertEqual(plan_of(*guests(4), apart(1, 3), host(0, 0)), [0, 1, 2, 3])
        self.assertEqual(plan_of(*guests(4), apart(3, 1), host(0, 0)), [0, 1, 2, 3])

    def test_a_host_and_another(self):
        self.assertEqual(plan_of(*guests(4), apart(0, 1), host(0, 0)), [0, 2, 1, 3])
        self.assertEqual(plan_of(*guests(4), apart(1, 0), host(0, 0)), [0, 2, 1, 3])
        self.assertEqual(plan_of(*guests(5), apart(4, 0), host(0, 0), host(4, 2)),
                         [0, 1, 4, 2, 3])

    def test_from_the_last_seat_to_seat_0(self):
        self.assertEqual(plan_of(*guests(4), apart(0, 2), host(0, 3)), [1, 2, 3, 0])

    def test_told_behind_the_hosts(self):
        told = ask(*guests(4), host(0, 0), plan(), apart(0, 1), plan(), apart(0, 2), plan())
        self.assertEqual(told[5:], [[4, 0, 1, 3, 2], [1], [4, 0, 2, 1, 3], [2], [-6]])

    def test_the_others_could_not_be_seated_then(self):
        # Guest 1 may sit beside host 0, but guest 2 sits well between these two alone.
        pairs = [apart(0, 3), apart(1, 4), apart(2, 3), apart(2, 4)]
        self.assertEqual(plan_of(*guests(5), *pairs, host(0, 0)), [0, 2, 1, 3, 4])
        self.assertEqual(plan_of(*guests(5), *pairs, host(0, 2)), [3, 4, 0, 2, 1])

    def test_without_the_first_the_second_is_still_as_high_as_can_be(self):
        # Guest 1 can't be beside host 0; of the seats left guest 2 has the highest.
        self.assertEqual(plan_of(*guests(6), apart(0, 1), host(0, 0)), [0, 2, 1, 5, 4, 3])
        self.assertEqual(plan_of(*guests(6), apart(0, 1), apart(1, 2), host(0, 0)),
                         [0, 3, 1, 5, 4, 2])


class EachRule(unittest.TestCase):
    def both(self, line, in_force, without, within):
        """The plan without the rule, with it, and without it again."""
        told = ask(*line, plan(), rules(*in_force), plan(), rules(), plan())[len(line):]
        self.assertEqual(told[0], [len(without), *without])
        self.assertEqual(told[2], [len(within), *within] if within else [-6])
        self.assertEqual(told[4], told[0])

    def test_who_came_with_each_other(self):
        line = [guest(), guest(companion=0), guest(), guest(), host(0, 0)]
        self.both(line, (1, 0, 0, 0), [0, 1, 3, 2], [0, 2, 1, 3])
        line = [guest(), guest(), guest(), guest(companion=1), host(0, 0)]
        self.both(line, (1, 0, 0, 0), [0, 1, 3, 2], [0, 1, 2, 3])
        line = [guest(), guest(), guest(companion=1), host(0, 0)]
        self.both(line, (1, 0, 0, 0), [0, 1, 2], None)

    def test_two_of_one_sex(self):
        line = [guest(sex=sex) for sex in (0, 0, 1, 1)] + [host(0, 0)]
        self.both(line, (0, 1, 0, 0), [0, 1, 3, 2], [0, 2, 1, 3])
        line = [guest(sex=sex) for sex in (1, 0, 1, 0)] + [host(1, 2)]
        self.both(line, (0, 1, 0, 0), [3, 2, 1, 0], [3, 2, 1, 0])
        line = [guest(sex=sex) for sex in (0, 1, 1, 1)] + [host(0, 0)]
        self.both(line, (0, 1, 0, 0), [0, 1, 3, 2], None)

    def test_two_of_one_country(self):
        line = [guest(country=country) for country in (5, 5, 9, 9)] + [host(0, 0)]
        self.both(line, (0, 0, 1, 0), [0, 1, 3, 2], [0, 2, 1, 3])
        line = [guest(country=country) for country in (5, 6, 6, 7)] + [host(0, 0)]
        self.both(line, (0, 0, 1, 0), [0, 1, 3, 2], [0, 1, 3, 2])
        line = [guest(country=country) for country in (5, 5, 9)] + [host(0, 0)]
        self.both(line, (0, 0, 1, 0), [0, 1, 2], None)

    def test_a_language_with_one_neighbour(self):
        line = [guest(languages=[tongue]) for tongue in (0, 1, 1, 0)] + [host(0, 0)]
        self.both(line, (0, 0, 0, 1), [0, 1, 3, 2], [0, 1, 2, 3])
        line = [guest(languages=[tongue]) for tongue in (0, 0, 1, 1)] + [host(0, 0)]
        self.both(line, (0, 0, 0, 1), [0, 1, 3, 2], [0, 1, 3, 2])
        line = [guest(languages=[tongue]) for tongue in (0, 0, 1)] + [host(0, 0)]
        self.both(line, (0, 0, 0, 1), [0, 1, 2], None)

    def test_one_language_of_several_is_enough(self):
        line = [guest(languages=tongues) for tongues in ([6, 2], [5, 6], [7, 5])]
        self.both([*line, host(0, 0)], (0, 0, 0, 1), [0, 1, 2], [0, 1, 2])

    def test_who_speaks_no_language(self):
        for silent in range(4):
            line = [guest(languages=[] if number == silent else [1]) for number in range(4)]
            self.both([*line, host(0, 0)], (0, 0, 0, 1), [0, 1, 3, 2], None)
            self.both([*line, host(0, 0), host(3, 2)], (0, 0, 0, 1), [0, 1, 3, 2], None)


class Together(unittest.TestCase):
    LINE = [guest(0, 0, 1, 0, -1, [1]), guest(0, 0, 2, 1, 0, [1, 2]),
            guest(0, 0, 3, 0, -1, [2]), guest(0, 0, 4, 1, 2, [2]),
            guest(0, 0, 1, 0, -1, [2]), guest(0, 0, 5, 1, -1, [1]), host(0, 0)]

    def test_without_any_rule(self):
        self.assertEqual(plan_of(*self.LINE), [0, 1, 3, 5, 4, 2])

    def test_all_the_rules(self):
        # By sexes 1 is opposite 0; then 2 is beside 1 and 5, not beside 3.
        line = [*self.LINE, rules(1, 1, 1, 1)]
        self.assertEqual(plan_of(*line), [0, 5, 2, 1, 4, 3])
        self.assertIsNone(plan_of(*line, apart(0, 3)))
        self.assertIsNone(plan_of(*line, apart(2, 5)))

    def test_all_but_that_of_sexes(self):
        # Not beside 0 are 1, by rule 0, and 4, by rule 2; 5 is, by rule 3.
        line = [*self.LINE, rules(1, 0, 1, 1)]
        self.assertEqual(plan_of(*line), [0, 2, 1, 4, 3, 5])
        self.assertEqual(plan_of(*line, apart(3, 5)), [0, 2, 1, 3, 4, 5])
        self.assertIsNone(plan_of(*line, apart(0, 5)))


class Hosts(unittest.TestCase):
    def test_who_may_not_sit_beside_one_another(self):
        lines = [
            [*guests(4), apart(0, 1)],
            [*guests(4), apart(1, 0)],
            [guest(), guest(companion=0), guest(), guest(), rules(1)],
            [guest(sex=1), guest(sex=1), guest(), guest(), rules(0, 1)],
            [guest(country=1), guest(country=1), guest(), guest(country=2), rules(0, 0, 1)],
        ]
        for line in lines:
            for one, other in [(0, 1), (1, 0), (2, 3), (3, 0), (0, 3)]:
                with self.subTest(line=line, one=one, other=other):
                    self.assertIsNone(plan_of(*line, host(0, one), host(1, other)))
            for one, other in [(0, 2), (2, 0), (3, 1)]:
                with self.subTest(line=line, one=one, other=other):
                    self.assertIsNotNone(plan_of(*line, host(0, one), host(1, other)))

    def test_without_a_word_in_common(self):
        line = [guest(languages=[0]), guest(languages=[1]), guest(languages=[0]),
                guest(languages=[1]), rules(0, 0, 0, 1)]
        self.assertEqual(plan_of(*line, host(0, 0), host(1, 1)), [0, 1, 3, 2])
        self.assertIsNone(plan_of(*line, host(0, 0), host(2, 2)))


class TwoGuests(unittest.TestCase):
    def test_they_sit_well(self):
        for number, seat in itertools.product((0, 1), (0, 1)):
            wanted = [0, 1] if number == seat else [1, 0]
            self.assertEqual(plan_of(*guests(2), host(number, seat)), wanted)

    def test_they_do_not_by_each_rule(self):
        line = [guest(languages=[1]), guest(companion=0, languages=[2]), host(1, 0)]
        for number in range(4):
            in_force = [0, 0, 0, 0]
            in_force[number] = 1
            self.assertIsNone(plan_of(*line, rules(*in_force)))
        self.assertIsNone(plan_of(*line, apart(0, 1)))

    def test_they_do_by_each_rule(self):
        line = [guest(country=1, sex=0, languages=[1, 2]),
                guest(country=2, sex=1, languages=[3, 2]), host(1, 0), rules(1, 1, 1, 1)]
        self.assertEqual(plan_of(*line), [1, 0])


class OneGuestAlone(unittest.TestCase):
    def test_under_each_rule(self):
        for tongues in ([], [4], [0, 7]):
            line = [guest(3, 4, 5, 1, -1, tongues), host(0, 0)]
            for in_force in itertools.product((0, 1), repeat=4):
                with self.subTest(tongues=tongues, in_force=in_force):
                    told = ask_last(*line, rules(*in_force), plan())
                    wrong = in_force[1] or in_force[2] or (in_force[3] and not tongues)
                    self.assertEqual(told, [-6] if wrong else [1, 0])


class EveryOrderTried(unittest.TestCase):
    def test_many_houses(self):
        found = 0
        for evening in evenings("plan", 700):
            with self.subTest(calls=evening.calls()):
                wanted = evening.plan()
                self.assertEqual(plan_of(*evening.calls()), wanted)
                if wanted:
                    self.assertEqual(ask_last(*evening.calls(), check(wanted)), [0])
                    found = found + 1
        self.assertTrue(100 < found < 600)

    def test_some_larger_houses(self):
        for evening in evenings("larger", 40, most=7):
            self.assertEqual(plan_of(*evening.calls()), evening.plan())


class NineGuests(unittest.TestCase):
    def often(self, line, wanted):
        """As often as the list may ask for it; every time the same is answered."""
        times = 60 - len(line)
        start = time.monotonic()
        told = ask(*line, *[plan()] * times)[len(line):]
        self.assertLess(time.monotonic() - start, SECONDS)
        self.assertEqual(told, [wanted] * times)

    def test_all_sit_well(self):
        self.often([*guests(9), host(0, 0)], [9, 0, 1, 3, 5, 7, 8, 6, 4, 2])

    def test_only_the_last_sits_well_nowhere(self):
        line = [guest(number) for number in range(9)]
        pairs = [apart(number, 8) for number in range(8)]
        self.often([*line, *pairs, host(0, 0)], [-6])

    def test_the_last_sits_well_beside_one_alone(self):
        pairs = [apart(number, 8) for number in range(7)]
        self.often([*guests(9), *pairs, host(0, 4)], [-6])

    def test_the_last_sits_well_beside_the_two_ahead_alone(self):
        # They are at the three lowest seats anyway.
        pairs = [apart(number, 8) for number in range(6)]
        self.often([*guests(9), *pairs, host(0, 0)], [9, 0, 1, 3, 5, 7, 8, 6, 4, 2])

    def test_the_last_sits_well_beside_the_first_two_alone(self):
        pairs = [apart(number, 8) for number in (0, 3, 4, 5, 6, 7)]
        self.often([*guests(9), *pairs, host(0, 0)], [9, 0, 1, 8, 2, 6, 7, 5, 4, 3])

    def test_the_last_sits_well_beside_the_host_and_the_first_alone(self):
        pairs = [apart(number, 8) for number in range(2, 8)]
        self.often([*guests(9), *pairs, host(0, 0)], [9, 0, 8, 1, 4, 6, 7, 5, 3, 2])

    def test_one_speaks_no_language(self):
        line = [guest(8 - number, languages=list(range(number))) for number in range(9)]
        self.often([*line, rules(0, 0, 0, 1), host(4, 4)], [-6])

    def test_sexes_by_turns_among_nine(self):
        for sexes in ((0, 1, 0, 1, 0, 1, 0, 1, 0), (0, 0, 0, 0, 1, 1, 1, 1, 1)):
            line = [guest(sex=sex) for sex in sexes]
            self.often([*line, rules(0, 1), host(0, 0)], [-6])

    def test_every_order_tried(self):
        people = [(number % 3, number, number // 2, number % 2, -1, [number % 4, 4 + number % 3])
                  for number in range(9)]
        for hosts in ([(4, 2)], [(4, 2), (0, 7)], [(8, 0), (7, 3)]):
            for in_force in ((0, 0, 1, 1), (0, 0, 0, 1), (0, 1, 0, 0)):
                pairs = [(4, 2), (0, 7), (6, 1), (8, 2), (8, 1)]
                evening = Evening(0, people, pairs, hosts, in_force)
                wanted = evening.plan()
                line = evening.calls()
                self.often(line, [9, *wanted] if wanted else [-6])
