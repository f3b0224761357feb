"""Writes calls as the interface wants them and takes the answers apart again."""

from firstseat.house import answers

SMALLEST = -2147483648
LARGEST = 2147483647


def begin(country=0):
    return [1, country]


def guest(rank=0, day=0, country=0, sex=0, companion=-1, languages=()):
    return [2, rank, day, country, sex, companion, len(languages), *languages]


def guests(count):
    return [guest() for number in range(count)]


def apart(one, other):
    return [3, one, other]


def host(number, seat):
    return [4, number, seat]


def rules(together=0, sexes=0, countries=0, tongues=0):
    return [5, together, sexes, countries, tongues]


def order():
    return [6]


def seats():
    return [7]


def plan():
    return [8]


def check(sitting):
    return [9, len(sitting), *sitting]


def flags(way):
    return [10, way]


def in_one_list(calls):
    return [number for call in calls for number in call]


def taken_apart(told):
    rows = []
    place = 0
    while place < len(told):
        end = place + 1 + told[place]
        if told[place] < 1 or end > len(told):
            raise AssertionError(f"no count of an answer at {place} of {told}")
        rows.append(told[place + 1:end])
        place = end
    return rows


def ask(*calls):
    """The answer to each call, as a list of numbers without its count."""
    if len(calls) > 60:
        raise AssertionError(f"{len(calls)} calls: a line has at most 60")
    rows = taken_apart(answers(in_one_list(calls)))
    if len(rows) != len(calls):
        raise AssertionError(f"{len(rows)} answers to {len(calls)} calls")
    return rows


def ask_last(*calls):
    """The answer to the last call alone."""
    return ask(*calls)[-1]
