"""What can be handed in: each check refuses what can't be and tells nothing."""

from mailslots.errors import BadKeep, BadLetter, BadPerson, BadTime, BadTown

MOST_OFFICES = 6
MOST_PEOPLE = 6
MOST_HOMES = 8
MOST_ORDERS = 20
MOST_UNDER_WAY = 9
MOST_KEEP = 60
LAST_DAY = 1000
LAST_END = 2000


def is_whole(value, least, most):
    """Tell whether the value is a whole number from the least to the most."""
    # Python counts True and False among the integers, the document doesn't.
    if isinstance(value, bool) or not isinstance(value, int):
        return False
    return least <= value <= most


def is_one_of(value, rows):
    """Tell whether the value is the number of one of the rows."""
    return is_whole(value, 0, len(rows) - 1)


def is_day(value):
    """Tell whether the value is a day that can be handed in."""
    return is_whole(value, 0, LAST_DAY)


def is_days_row(row, office, days):
    """Tell whether the row can be that of the office in days."""
    if len(row) != len(days):
        return False
    for goal, long in enumerate(row):
        if goal == office:
            possible = is_whole(long, 0, 0)
        else:
            possible = is_whole(long, 1, MOST_UNDER_WAY)
        if not possible:
            return False
    return True


def is_homes_row(row, days):
    """Tell whether the row can be the homes of one person."""
    if not 1 <= len(row) <= MOST_HOMES:
        return False
    first_day, first_office = row[0]
    if not is_whole(first_day, 0, 0) or not is_one_of(first_office, days):
        return False
    for at in range(1, len(row)):
        day, office = row[at]
        last_day, last_office = row[at - 1]
        if not is_whole(day, last_day + 1, LAST_DAY):
            return False
        if not is_one_of(office, days) or office == last_office:
            return False
    return True


def is_order(row, days, homes):
    """Tell whether the row can be an order of this town."""
    office, person, goal, begin, end = row
    if not is_one_of(office, days) or not is_one_of(person, homes):
        return False
    if not is_one_of(goal, days) or goal == office:
        return False
    return is_whole(begin, 0, LAST_END) and is_whole(end, begin + 1, LAST_END)


def check_days(days):
    """Refuse what can't be a town's days."""
    if len(days) == 0:
        raise BadTown("days", 0)
    for office, row in enumerate(days):
        if office >= MOST_OFFICES or not is_days_row(row, office, days):
            raise BadTown("days", office)


def check_homes(days, homes):
    """Refuse what can't be the homes of a town with these days."""
    for person, row in enumerate(homes):
        if person >= MOST_PEOPLE or not is_homes_row(row, days):
            raise BadTown("homes", person)


def check_orders(days, homes, orders):
    """Refuse what can't be the orders of a town with these days and homes."""
    for number, row in enumerate(orders):
        if number >= MOST_ORDERS or not is_order(row, days, homes):
            raise BadTown("orders", number)


def check_town(town):
    """Refuse what can't be a town, its parts in turn."""
    days, homes, orders = town
    check_days(days)
    check_homes(days, homes)
    check_orders(days, homes, orders)


def check_person(town, person):
    """Refuse a person that there isn't in the town."""
    _, homes, _ = town
    if not is_one_of(person, homes):
        raise BadPerson("there is no such person")


def check_time(day):
    """Refuse a day that can't be asked for."""
    if not is_day(day):
        raise BadTime("there is no such day")


def check_keep(keep):
    """Refuse a number of days for which an old home's letters can't be kept."""
    if not is_whole(keep, 1, MOST_KEEP):
        raise BadKeep("letters are kept for one day to sixty days")


def check_coming(town, office, person, day):
    """Refuse a letter's coming to what there isn't in the town, or on another day."""
    days, homes, _ = town
    if not is_one_of(office, days):
        raise BadLetter("there is no such office")
    if not is_one_of(person, homes):
        raise BadLetter("there is no such person")
    if not is_day(day):
        raise BadLetter("there is no such day")


def check_letter(town, letter):
    """Refuse what can't be a letter in the town."""
    days, _, _ = town
    person, office, day, sender = letter
    check_coming(town, office, person, day)
    if not is_one_of(sender, days):
        raise BadLetter("there is no such office of a sender")
