"""The way of a letter: where it comes, and whether it comes back."""

from mailslots.checks import check_letter, check_town
from mailslots.towns import home_on, order_on


def way(town, letter):
    """Tell the letter's comings, the word for how they end, and its coming back."""
    check_town(town)
    check_letter(town, letter)
    stops, _, word = steps(town, letter)
    if word == "reached":
        return stops, word, None
    days, _, _ = town
    _, _, _, sender = letter
    day, office = stops[-1]
    return stops, word, (day + days[office][sender], sender)


def steps(town, letter):
    """Tell the letter's comings, the orders that held for it there in turn, and the word for its end.

    The letter's day may lie above 1000. Each order sent it on, but the last one of a ring, which
    had done so already.
    """
    days, _, orders = town
    person, office, day, _ = letter
    stops = [(day, office)]
    held = []
    while home_on(town, person, day) != office:
        order = order_on(town, office, person, day)
        if order is None:
            return stops, held, "unknown"
        held.append(order)
        if order in held[:-1]:
            return stops, held, "ring"
        goal = orders[order][2]
        day += days[office][goal]
        office = goal
        stops.append((day, office))
    return stops, held, "reached"
