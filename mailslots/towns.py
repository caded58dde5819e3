"""Where people live, and which orders the offices have for them."""

from mailslots.checks import check_coming, check_person, check_time, check_town


def lives(town, person, day):
    """Tell at which office the person lives on the day, 0 to 1000."""
    check_town(town)
    check_person(town, person)
    check_time(day)
    return home_on(town, person, day)


def holds(town, office, person, day):
    """Tell the number of the order that holds at the office for the person on the day."""
    check_town(town)
    check_coming(town, office, person, day)
    return order_on(town, office, person, day)


def home_on(town, person, day):
    """Tell at which office the person lives on the day, which may lie above 1000."""
    _, homes, _ = town
    home = None
    for first_day, office in homes[person]:
        if first_day <= day:
            home = office
    return home


def order_on(town, office, person, day):
    """Tell which order holds at the office for the person on the day, which may lie above 1000."""
    _, _, orders = town
    found = None
    for number, (at, whom, _, begin, end) in enumerate(orders):
        if at == office and whom == person and begin <= day < end:
            found = number
    return found
