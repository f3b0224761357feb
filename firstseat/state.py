"""What is told of one house: its country, guests, pairs told apart, hosts and rules."""

MOST_GUESTS = 9
MOST_PAIRS = 40
MOST_HOSTS = 2


class Guest:
    def __init__(self, rank, day, country, sex, companion, languages):
        self.rank = rank
        self.day = day
        self.country = country
        self.sex = sex
        self.companion = companion
        self.languages = languages


# A call that is refused gives back a number below 0. Every refusal is looked for
# before anything is kept, in the order in which the document tells them.
class House:
    def __init__(self):
        self.renew(0)

    def renew(self, country):
        self.country = country
        self.guests = []
        self.pairs = []
        self.hosts = []
        self.in_force = [0, 0, 0, 0]

    def begin(self, country):
        if not is_country(country):
            return -1
        self.renew(country)
        return 0

    def guest(self, rank, day, country, sex, companion, languages):
        if not (0 <= rank <= 10 and 0 <= day <= 100000 and is_country(country)):
            return -1
        if not (0 <= sex <= 1 and -1 <= companion <= 99 and are_languages(languages)):
            return -1
        if len(self.hosts) > 0:
            return -3
        if len(self.guests) == MOST_GUESTS:
            return -5
        if companion != -1 and not self.comes_alone(companion):
            return -4
        number = len(self.guests)
        if companion != -1:
            # Both came with each other, so neither can be come with again.
            earlier = self.guests[companion]
            earlier.companion = number
        self.guests.append(Guest(rank, day, country, sex, companion, languages))
        return number

    def apart(self, one, other):
        if not (self.is_guest(one) and self.is_guest(other) and one != other):
            return -1
        if len(self.pairs) == MOST_PAIRS:
            return -5
        self.pairs.append((one, other))
        return len(self.pairs)

    def host(self, guest, seat):
        # There are as many seats as guests, and both are numbered from 0 on.
        if not (self.is_guest(guest) and 0 <= seat < len(self.guests)):
            return -1
        if len(self.hosts) == MOST_HOSTS:
            return -4
        for host in self.hosts:
            if guest == host[0] or seat == host[1]:
                return -4
        self.hosts.append((guest, seat))
        return len(self.hosts)

    def rules(self, in_force):
        for number in in_force:
            if not 0 <= number <= 1:
                return -1
        self.in_force = in_force
        return 0

    def is_guest(self, number):
        return 0 <= number < len(self.guests)

    def comes_alone(self, number):
        return self.is_guest(number) and self.guests[number].companion == -1


def is_country(number):
    return 0 <= number <= 30


def are_languages(numbers):
    for number in numbers:
        if not 0 <= number <= 7 or numbers.count(number) > 1:
            return False
    return True
