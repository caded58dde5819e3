"""Rings of orders: offices that send on to one another in a circle."""

from mailslots.checks import check_person, check_time, check_town
from mailslots.towns import order_on


def rings(town, person, day):
    """Tell the rings of the orders that hold for the person on the day, rising."""
    check_town(town)
    check_person(town, person)
    check_time(day)
    goals = goals_on(town, person, day)
    found = []
    for office in range(len(goals)):
        ring = ring_from(goals, office)
        # Each ring is met from all of its offices, and is told by its least one only.
        if ring and min(ring) == office:
            found.append(ring)
    return found


def goals_on(town, person, day):
    """Tell for each office to which one it sends the person on, None for none."""
    days, _, orders = town
    goals = []
    for office in range(len(days)):
        order = order_on(town, office, person, day)
        goals.append(None if order is None else orders[order][2])
    return goals


def ring_from(goals, start):
    """Tell the ring from the start back to it, () if sending on doesn't lead back."""
    ring = [start]
    at = goals[start]
    while at is not None and at not in ring:
        ring.append(at)
        at = goals[at]
    return tuple(ring) if at == start else ()
