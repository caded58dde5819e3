"""The way of a letter: where it comes, and whether it comes back."""

from mailslots.checks import check_letter, check_town
from mailslots.towns import home_on, order_on


def way(town, letter):
    """Tell the letter's comings, the word for how they end, and its coming back."""
    check_town(town)
    check_letter(town, letter)
    days, _, orders = town
    person, office, day, sender = letter
    stops = [(day, office)]
    sent_by = []
    while home_on(town, person, day) != office:
        order = order_on(town, office, person, day)
        if order is None or order in sent_by:
            word = "unknown" if order is None else "ring"
            return stops, word, (day + days[office][sender], sender)
        sent_by.append(order)
        goal = orders[order][2]
        day += days[office][goal]
        office = goal
        stops.append((day, office))
    return stops, "reached", None
