"""Who sits well beside whom, and what a plan breaks."""

TOGETHER = 0
SEXES = 1
COUNTRIES = 2
TONGUES = 3


# One guest alone is their own neighbour, so one and other may be the same.
def may_sit_beside(house, one, other):
    guest = house.guests[one]
    neighbour = house.guests[other]
    if (one, other) in house.pairs or (other, one) in house.pairs:
        return False
    if house.in_force[TOGETHER] == 1 and guest.companion == other:
        return False
    if house.in_force[SEXES] == 1 and guest.sex == neighbour.sex:
        return False
    return house.in_force[COUNTRIES] == 0 or guest.country != neighbour.country


def have_words(house, one, other):
    """Whether one and other are enough for each other by rule 3, if that is in force."""
    if house.in_force[TONGUES] == 0:
        return True
    spoken = house.guests[other].languages
    return any([language in spoken for language in house.guests[one].languages])


def seats_each_once(house, sitting):
    return sorted(sitting) == list(range(len(house.guests)))


def broken_by(house, sitting):
    """The pairs that are told of what it breaks, each as (one, other)."""
    pairs = []
    for seat in range(len(sitting)):
        right = right_of(sitting, seat)
        if not may_sit_beside(house, sitting[seat], right):
            pairs.append((sitting[seat], right))
    for seat in range(len(sitting)):
        one = sitting[seat]
        # The index -1 is the last seat's, which is to the left of seat 0.
        left = sitting[seat - 1]
        if not (have_words(house, one, left) or have_words(house, one, right_of(sitting, seat))):
            pairs.append((one, one))
    return pairs


def right_of(sitting, seat):
    return sitting[(seat + 1) % len(sitting)]
