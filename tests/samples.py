"""Towns for the tests, and what several of the tests ask of a call."""

import copy

from mailslots.errors import MailError

HUGE = 10 ** 60 - 1

# Three offices with ways of unlike lengths, and three people:
# person 0 moves 0 -> 1 -> 0, person 1 stays at 2, person 2 moves 2 -> 1.
DAYS = ((0, 2, 5), (3, 0, 4), (9, 1, 0))
HOMES = (((0, 0), (10, 1), (1000, 0)), ((0, 2),), ((0, 2), (500, 1)))
ORDERS = (
    (0, 0, 1, 10, 40),
    (2, 2, 1, 500, 530),
    (0, 0, 2, 20, 30),
    (0, 1, 2, 5, 6),
)
TOWN = (DAYS, HOMES, ORDERS)


def even_days(offices, long=1):
    """Days by which each way between two offices takes equally long."""
    return tuple(
        tuple(0 if goal == office else long for goal in range(offices)) for office in range(offices)
    )


def town_of(offices, orders=(), homes=(((0, 0),),)):
    """A town with equally long ways, at whose office 0 one person lives."""
    return even_days(offices), homes, tuple(orders)


def refused(test, kind, call, *handed_in):
    """Assert that the call is refused by exactly this error, which is told."""
    try:
        told = call(*handed_in)
    except MailError as error:
        test.assertIs(error.__class__, kind)
        return error
    test.fail(f"{call.__name__}{handed_in!r} told {told!r} instead of {kind.__name__}")


def unchanged(test, call, *handed_in):
    """Assert that the call leaves what is handed in as it was; tell what it told."""
    before = copy.deepcopy(handed_in)
    told = call(*handed_in)
    test.assertEqual(repr(handed_in), repr(before))
    return told
