"""The plan: the first one by precedence in which all sit well.

The seats are filled one by one round the ring. Of the ways to fill the seats so
far that leave the same guests over and ask the same of the seats to come, only the
foremost is kept. So with nine guests there are some thousands of ways to go through,
even where there is no plan, and not every order of the guests.
"""

from firstseat.precedence import by_precedence
from firstseat.sitting import have_words, may_sit_beside
from firstseat.table import by_honour


class Company:
    """What the house tells of each two guests, asked only once for a plan."""

    def __init__(self, house):
        numbers = list(range(len(house.guests)))
        self.beside = []
        self.words = []
        for one in numbers:
            self.beside.append([may_sit_beside(house, one, other) for other in numbers])
            self.words.append([have_words(house, one, other) for other in numbers])


class Way:
    """Who sits at the seats so far, from the first host's own on to the right."""

    def __init__(self, sitters, seated, cost, last_content, first_content):
        self.sitters = sitters
        # One bit for each guest who sits.
        self.seated = seated
        self.cost = cost
        self.last_content = last_content
        self.first_content = first_content

    def needs(self):
        return (self.seated, self.sitters[-1], self.last_content, self.first_content)


def first_plan(house):
    """Who sits at each seat, or None where not all can sit well."""
    company = Company(house)
    costs = costs_by_seat(house)
    count = len(costs)
    start = house.hosts[0][1]
    ways = [first_way(house.hosts[0][0])]
    for step in range(1, count):
        ways = foremost_ways(company, ways, costs[(start + step) % count])
    plans = [way for way in ways if closes(company, way)]
    if len(plans) == 0:
        return None
    foremost = min(plans, key=lambda way: way.cost)
    return [foremost.sitters[(seat - start) % count] for seat in range(count)]


def costs_by_seat(house):
    """For each seat who may have it, each with a cost; the first plan costs least."""
    costs = [{} for guest in house.guests]
    for host in house.hosts:
        costs[host[1]][host[0]] = 0
    hosts = [host[0] for host in house.hosts]
    seats = by_honour(house)
    # One seat lower costs a guest more than all who go behind them can save.
    weight = 1
    for guest in reversed(by_precedence(house)):
        if guest not in hosts:
            for place, seat in enumerate(seats):
                costs[seat][guest] = place * weight
            weight = weight * len(seats)
    return costs


def first_way(host):
    # The first host is content so far: their left neighbour comes last of all,
    # and it is asked when the ring closes whether either neighbour will do.
    return Way([host], 1 << host, 0, True, False)


def foremost_ways(company, ways, costs):
    """The ways with one more seat filled, the foremost alone of those with the same needs."""
    foremost = {}
    for way in ways:
        for guest, cost in costs.items():
            if can_go_on(company, way, guest):
                longer = gone_on(company, way, guest, cost)
                needs = longer.needs()
                if needs not in foremost or longer.cost < foremost[needs].cost:
                    foremost[needs] = longer
    return list(foremost.values())


def can_go_on(company, way, guest):
    last = way.sitters[-1]
    if (way.seated & (1 << guest)) != 0 or not company.beside[last][guest]:
        return False
    return way.last_content or company.words[last][guest]


def gone_on(company, way, guest, cost):
    words = company.words[way.sitters[-1]][guest]
    first_content = way.first_content or (len(way.sitters) == 1 and words)
    return Way(way.sitters + [guest], way.seated | (1 << guest), way.cost + cost, words, first_content)


def closes(company, way):
    """Whether the last one sits well beside the first one, who sits to their right."""
    last = way.sitters[-1]
    first = way.sitters[0]
    if not company.beside[last][first]:
        return False
    return company.words[last][first] or (way.last_content and way.first_content)
