"""The table: its seats by honour."""


def by_honour(house):
    """The seats but the hosts' own, the highest first."""
    count = len(house.guests)
    own = [host[1] for host in house.hosts]
    seats = []
    for away in range(1, count):
        # To the right is the next higher seat.
        for step in (away, -away):
            for seat in own:
                there = (seat + step) % count
                if there not in own and there not in seats:
                    seats.append(there)
    return seats
