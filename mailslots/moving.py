"""Which orders a person who moves has to give, and which letters to old homes fail."""

from mailslots.checks import LAST_END, check_keep, check_person, check_town
from mailslots.towns import home_on
from mailslots.ways import steps


def failing(town, person, keep):
    """Tell the first coming to an old home from where a letter doesn't reach, None if all reach."""
    check_asked(town, person, keep)
    for office, day in sorted(comings(town, person, keep)):
        _, _, word = steps(town, (person, office, day, office))
        if word != "reached":
            return office, day
    return None


def to_give(town, person, keep):
    """Tell the orders by which all letters that come to the person's old homes reach."""
    check_asked(town, person, keep)
    days, homes, _ = town
    endless = tuple(endless_orders(homes[person], person))
    ends = {}
    for office, day in comings(town, person, keep):
        stops, held, _ = steps((days, homes, endless), (person, office, day, office))
        # No letter goes round: each order that holds for it leads to a later home than the one ahead.
        for (sent_on, _), order in zip(stops, held):
            ends[order] = max(sent_on + 1, ends.get(order, 0))
    # With these ends the letters go the same ways: an order still holds whenever it was used.
    return [endless[order][:-1] + (ends[order],) for order in sorted(ends)]


def check_asked(town, person, keep):
    """Refuse what can't be asked of a person who moves."""
    check_town(town)
    check_person(town, person)
    check_keep(keep)


def comings(town, person, keep):
    """Tell each (office, day) at which a letter comes to a home that the person left."""
    _, homes, _ = town
    found = []
    for old_office, _, left in moves(homes[person]):
        for day in range(left, left + keep):
            if home_on(town, person, day) != old_office:
                found.append((old_office, day))
    return found


def endless_orders(home_rows, person):
    """Tell an order for each move, in turn, that ends later than any letter comes."""
    return [(old_office, person, office, day, LAST_END) for old_office, office, day in moves(home_rows)]


def moves(home_rows):
    """Tell the moves from one home to the next, in turn: (old office, next office, day)."""
    found = []
    for at in range(1, len(home_rows)):
        _, old_office = home_rows[at - 1]
        day, office = home_rows[at]
        found.append((old_office, office, day))
    return found
