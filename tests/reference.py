"""What the document promises, tried out on every order of the guests.

Slow and plain, and written without a look at how the program goes about it: the
tests compare the two on many small houses.
"""

import itertools
import random

from tests.calls import apart, begin, guest, host, rules


class Evening:
    """One house, with the calls that tell it."""

    def __init__(self, country, people, pairs, hosts, in_force):
        self.country = country
        self.people = people
        self.pairs = pairs
        self.hosts = hosts
        self.in_force = in_force

    def calls(self):
        return [
            begin(self.country),
            *[guest(*person) for person in self.people],
            *[apart(one, other) for one, other in self.pairs],
            rules(*self.in_force),
            *[host(number, seat) for number, seat in self.hosts],
        ]

    def companions(self):
        both = {}
        for number, person in enumerate(self.people):
            if person[4] != -1:
                both[number] = person[4]
                both[person[4]] = number
        return both

    def order(self):
        companions = self.companions()

        def key(number):
            rank, day, country = self.people[number][:3]
            return rank, country == self.country, day, number

        def full_key(number):
            companion = companions.get(number)
            if self.people[number][0] == 10 and companion is not None \
                    and self.people[companion][0] != 10:
                return key(companion), 1
            return key(number), 0

        return sorted(range(len(self.people)), key=full_key)

    def seats(self):
        count = len(self.people)
        taken = [seat for _, seat in self.hosts]
        found = []
        for away in range(1, count + 1):
            for seat in taken:
                found.append((seat + away) % count)
            for seat in taken:
                found.append((seat - away) % count)
        return list(dict.fromkeys(seat for seat in found if seat not in taken))

    def breaks(self, sitting):
        companions = self.companions()
        together, sexes, countries, tongues = self.in_force
        people = self.people
        count = len(sitting)
        first, then = [], []
        for seat, one in enumerate(sitting):
            right, left = sitting[(seat + 1) % count], sitting[(seat - 1) % count]
            wrong = {one, right} in [set(pair) for pair in self.pairs]
            wrong = wrong or (together and companions.get(one) == right)
            wrong = wrong or (sexes and people[one][3] == people[right][3])
            wrong = wrong or (countries and people[one][2] == people[right][2])
            if wrong:
                first.append((one, right))
            near = {*people[left][5], *people[right][5]}
            if tongues and not near & {*people[one][5]}:
                then.append((one, one))
        return first + then

    def plan(self):
        """The first of all plans, or None."""
        hosts = [number for number, _ in self.hosts]
        others = [number for number in self.order() if number not in hosts]
        honour = self.seats()
        # permutations come in the order of the places that they are made of.
        for chosen in itertools.permutations(honour):
            sitting = [None] * len(self.people)
            for number, seat in [*self.hosts, *zip(others, chosen)]:
                sitting[seat] = number
            if not self.breaks(sitting):
                return sitting
        return None


def evenings(seed, count, most=6):
    """Different small houses with hosts, always the same ones for one seed."""
    draw = random.Random(seed)
    for _ in range(count):
        size = draw.randint(1, most)
        homes = draw.sample(range(31), draw.randint(1, 4))
        free = []
        people = []
        for number in range(size):
            companion = -1
            if free and draw.random() < 0.4:
                companion = free.pop(draw.randrange(len(free)))
            else:
                free.append(number)
            tongues = draw.sample(range(8), draw.choice([0, 1, 1, 2, 3]))
            people.append((draw.choice([0, 1, 2, 10, 10]), draw.choice([0, 7, 99]),
                           draw.choice(homes), draw.randint(0, 1), companion, tongues))
        pairs = []
        if size > 1:
            pairs = [draw.sample(range(size), 2) for _ in range(draw.choice([0, 0, 1, 3]))]
        who = draw.sample(range(size), min(size, draw.randint(1, 2)))
        where = draw.sample(range(size), len(who))
        in_force = [int(draw.random() < chance) for chance in (0.5, 0.2, 0.3, 0.4)]
        yield Evening(homes[0], people, pairs, list(zip(who, where)), in_force)
