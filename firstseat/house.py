"""The calls about one house: read out of one list of numbers, answered in another."""

from firstseat.flags import flags_in_row
from firstseat.plan import first_plan
from firstseat.precedence import by_precedence
from firstseat.sitting import broken_by, seats_each_once
from firstseat.state import House
from firstseat.table import by_honour

BEGIN = 1
GUEST = 2
APART = 3
HOST = 4
RULES = 5
ORDER = 6
SEATS = 7
PLAN = 8
CHECK = 9

# How many whole numbers stand behind a call's own number, ahead of its row.
NUMBERS = {1: 1, 2: 5, 3: 2, 4: 2, 5: 4, 6: 0, 7: 0, 8: 0, 9: 0, 10: 1}


def answers(calls):
    house = House()
    told = []
    place = 0
    while place < len(calls):
        end = end_of_call(calls, place)
        answer = answer_to(house, calls[place:end])
        told.append(len(answer))
        told.extend(answer)
        place = end
    return told


def end_of_call(calls, place):
    end = place + 1 + NUMBERS[calls[place]]
    if calls[place] == GUEST or calls[place] == CHECK:
        # A row lies last, its count ahead of it.
        end = end + 1 + calls[end]
    return end


def answer_to(house, call):
    if call[0] == BEGIN:
        return [house.begin(call[1])]
    if call[0] == GUEST:
        return [house.guest(call[1], call[2], call[3], call[4], call[5], call[7:])]
    if call[0] == APART:
        return [house.apart(call[1], call[2])]
    if call[0] == HOST:
        return [house.host(call[1], call[2])]
    if call[0] == RULES:
        return [house.rules(call[1:])]
    return told_of(house, call)


# These calls change nothing in the house.
def told_of(house, call):
    if call[0] == ORDER:
        return counted(by_precedence(house))
    if call[0] == SEATS:
        return told_seats(house)
    if call[0] == PLAN:
        return told_plan(house)
    if call[0] == CHECK:
        return told_check(house, call[2:])
    # Any call but these has failed in NUMBERS already, unless it is flags.
    return told_flags(house, call[1])


def told_seats(house):
    if len(house.hosts) == 0:
        return [-2]
    return counted(by_honour(house))


def told_plan(house):
    if len(house.hosts) == 0:
        return [-2]
    sitting = first_plan(house)
    if sitting is None:
        return [-6]
    return counted(sitting)


def told_check(house, sitting):
    if not seats_each_once(house, sitting):
        return [-1]
    pairs = broken_by(house, sitting)
    # The count is of pairs, not of the numbers behind it.
    told = [len(pairs)]
    for pair in pairs:
        told.extend(pair)
    return told


def told_flags(house, way):
    if not 0 <= way <= 2:
        return [-1]
    return counted(flags_in_row(house, way))


def counted(numbers):
    return [len(numbers)] + numbers
