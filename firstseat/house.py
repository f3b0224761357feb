"""The calls about one house: read out of one list of numbers, answered in another."""

from firstseat.state import House

BEGIN = 1
GUEST = 2
APART = 3
HOST = 4

# How many whole numbers stand behind a call's own number, ahead of its row.
NUMBERS = {1: 1, 2: 5, 3: 2, 4: 2, 5: 4}


def answers(calls):
    house = House()
    told = []
    place = 0
    while place < len(calls):
        end = end_of_call(calls, place)
        answer = answer_to(house, calls[place:end])
        told.append(len(answer))
        told.extend(answer)
        place = end
    return told


def end_of_call(calls, place):
    end = place + 1 + NUMBERS[calls[place]]
    if calls[place] == GUEST:
        # The languages lie last, their count ahead of them.
        end = end + 1 + calls[end]
    return end


def answer_to(house, call):
    if call[0] == BEGIN:
        return [house.begin(call[1])]
    if call[0] == GUEST:
        return [house.guest(call[1], call[2], call[3], call[4], call[5], call[7:])]
    if call[0] == APART:
        return [house.apart(call[1], call[2])]
    if call[0] == HOST:
        return [house.host(call[1], call[2])]
    # Any call but these has failed in NUMBERS already, unless it is rules.
    return [house.rules(call[1:])]
