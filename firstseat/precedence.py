"""Precedence: which guest goes ahead of which."""

NO_RANK = 10


def by_precedence(house):
    """The numbers of all guests, hosts too, who goes first ahead."""
    numbers = list(range(len(house.guests)))
    ranked = [number for number in numbers if not goes_behind(house, number)]
    order = []
    for number in sorted(ranked, key=lambda one: standing(house, one)):
        order.append(number)
        companion = house.guests[number].companion
        if companion != -1 and goes_behind(house, companion):
            order.append(companion)
    return order


def goes_behind(house, number):
    """Whether this guest's place is not their own, but right behind their companion's."""
    guest = house.guests[number]
    if guest.rank != NO_RANK or guest.companion == -1:
        return False
    return house.guests[guest.companion].rank != NO_RANK


def standing(house, number):
    guest = house.guests[number]
    at_home = 1 if guest.country == house.country else 0
    return (guest.rank, at_home, guest.day, number)
