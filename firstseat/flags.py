"""The row in which the countries' flags stand."""


def flags_in_row(house, way):
    """The countries from the left; the house's own is first, last or in the middle."""
    own = house.country
    others = sorted(set([guest.country for guest in house.guests if guest.country != own]))
    if way == 0:
        return [own] + others
    if way == 1:
        return others + [own]
    # The first of the others is right of the own, the next left, and so on by turns.
    return others[1::2][::-1] + [own] + others[::2]
