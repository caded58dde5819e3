"""[2], [3]: what a town is, and the refusal of others by all that is handed a town."""

import unittest

from mailslots.errors import BadPerson, BadTown
from mailslots.moving import failing, to_give
from mailslots.posts import Post
from mailslots.reasons import why
from mailslots.rings import rings
from mailslots.texts import with_orders, written
from mailslots.towns import holds, lives
from mailslots.ways import way
from samples import DAYS, HOMES, HUGE, ORDERS, TOWN, even_days, refused, town_of

CALLS = (
    (lives, (0, 0)),
    (holds, (0, 0, 0)),
    (way, ((0, 0, 0, 0),)),
    (rings, (0, 0)),
    (why, ((0, 0, 0, 0),)),
    (Post, ()),
    (to_give, (0, 1)),
    (failing, (0, 1)),
    (written, ()),
)
# with_orders is not asked about orders here: those of the town give way to those of the text.
ALL_CALLS = CALLS + ((with_orders, ("",)),)
NOT_WHOLE = (True, False, None, "1", 1.0)


def changed(rows, at, row):
    """The rows with another one in the place of row at."""
    return rows[:at] + (row,) + rows[at + 1:]


class BadTownsTest(unittest.TestCase):
    def accept(self, town):
        self.assertEqual(lives(town, 0, 0), town[1][0][0][1])

    def refuse(self, town, word, number):
        for call, more in CALLS if word == "orders" else ALL_CALLS:
            with self.subTest(call=call.__name__, town=town):
                error = refused(self, BadTown, call, town, *more)
                self.assertEqual((error.word, error.number), (word, number))

    def refuse_homes(self, row, person=1):
        homes = changed(HOMES, person, row)
        self.refuse((DAYS, homes, ()), "homes", person)

    def refuse_order(self, *row):
        self.refuse((DAYS, HOMES, changed(ORDERS, 2, row)), "orders", 2)

    # days

    def test_one_to_six_offices(self):
        for offices in range(1, 7):
            self.accept(town_of(offices))

    def test_no_office(self):
        self.refuse(((), (), ()), "days", 0)
        self.refuse(((), HOMES, ORDERS), "days", 0)

    def test_a_seventh_office(self):
        self.refuse(town_of(7), "days", 6)
        self.refuse(town_of(8), "days", 6)

    def test_a_seventh_office_behind_one_that_cannot_be(self):
        days = even_days(7)
        self.refuse((changed(days, 4, (1, 1, 1, 1, 0, 0, 1)), HOMES, ()), "days", 4)

    def test_days_of_another_length(self):
        self.refuse((((0, 1), (1, 0), (1, 1)), HOMES, ()), "days", 0)
        self.refuse((changed(DAYS, 1, (3, 0)), HOMES, ()), "days", 1)
        self.refuse((changed(DAYS, 2, (9, 1, 0, 1)), HOMES, ()), "days", 2)
        self.refuse((((),), HOMES, ()), "days", 0)
        self.refuse((((0, 1),), HOMES, ()), "days", 0)

    def test_least_and_most_days_under_way(self):
        self.accept((((0, 1), (9, 0)), (((0, 1),),), ()))
        for long in (0, -1, 10, HUGE, -HUGE):
            self.refuse((((0, long), (1, 0)), HOMES, ()), "days", 0)
            self.refuse((((0, 1), (long, 0)), HOMES, ()), "days", 1)

    def test_days_of_an_office_to_itself(self):
        for long in (1, -1, 9, HUGE):
            self.refuse((((long,),), HOMES, ()), "days", 0)
            self.refuse((changed(DAYS, 2, (9, 1, long)), HOMES, ()), "days", 2)

    def test_days_that_are_not_whole(self):
        for long in NOT_WHOLE:
            self.refuse((changed(DAYS, 1, (3, 0, long)), HOMES, ()), "days", 1)
        self.refuse((((False,),), HOMES, ()), "days", 0)

    def test_the_first_of_several_days(self):
        self.refuse((((0, 1, 1), (1, 1, 1), (1, 1, 1)), HOMES, ()), "days", 1)

    # homes

    def test_no_person(self):
        # The person is refused, so the town wasn't.
        refused(self, BadPerson, lives, (DAYS, (), ()), 0, 0)
        self.refuse((DAYS, (), ((0, 0, 1, 0, 1),)), "orders", 0)

    def test_six_people(self):
        self.accept((DAYS, (((0, 1),),) * 6, ()))

    def test_a_seventh_person(self):
        self.refuse((DAYS, (((0, 1),),) * 7, ()), "homes", 6)
        self.refuse((DAYS, (((0, 1),),) * 9, ()), "homes", 6)

    def test_a_seventh_person_behind_one_that_cannot_be(self):
        self.refuse((DAYS, changed((((0, 1),),) * 7, 5, ((1, 1),)), ()), "homes", 5)

    def test_one_to_eight_homes(self):
        for many in range(1, 9):
            self.accept((DAYS, (tuple((day, day % 2) for day in range(many)),), ()))

    def test_no_home(self):
        self.refuse_homes(())

    def test_a_ninth_home(self):
        self.refuse_homes(tuple((day, day % 2) for day in range(9)))

    def test_the_first_home_is_lived_at_from_day_0_on(self):
        for day in (1, -1, 1000, HUGE, -HUGE):
            self.refuse_homes(((day, 0),))
            self.refuse_homes(((day, 0), (999, 1)))

    def test_later_homes_days_rise(self):
        self.accept((DAYS, (((0, 0), (1, 1), (2, 2)),), ()))
        self.refuse_homes(((0, 0), (0, 1)))
        self.refuse_homes(((0, 0), (-1, 1)))
        self.refuse_homes(((0, 0), (7, 1), (7, 2)))
        self.refuse_homes(((0, 0), (7, 1), (6, 2)))

    def test_the_last_day_of_a_move(self):
        self.accept((DAYS, (((0, 0), (1000, 1)),), ()))
        self.refuse_homes(((0, 0), (1001, 1)))
        self.refuse_homes(((0, 0), (1000, 1), (1001, 2)))
        self.refuse_homes(((0, 0), (HUGE, 1)))

    def test_homes_at_offices_that_there_are_not(self):
        for office in (3, -1, HUGE, -HUGE):
            self.refuse_homes(((0, office),))
            self.refuse_homes(((0, 0), (5, office)))

    def test_each_home_is_at_another_office_than_the_one_ahead(self):
        self.accept((DAYS, (((0, 0), (1, 1), (2, 0)),), ()))
        self.refuse_homes(((0, 1), (5, 1)))
        self.refuse_homes(((0, 1), (5, 2), (6, 2)))

    def test_homes_that_are_not_whole(self):
        for value in NOT_WHOLE:
            self.refuse_homes(((value, 0),))
            self.refuse_homes(((0, value),))
            self.refuse_homes(((0, 2), (value, 1)))
            self.refuse_homes(((0, 2), (5, value)))

    def test_the_first_of_several_people(self):
        self.refuse((DAYS, (((0, 0),), ((0, 3),), ((1, 0),)), ()), "homes", 1)
        self.refuse_homes(((0, 3),), 0)
        self.refuse_homes(((0, 3),), 2)

    # orders

    def test_no_order_and_twenty_orders(self):
        self.accept((DAYS, HOMES, ()))
        self.accept((DAYS, HOMES, ((0, 0, 1, 0, 1),) * 20))

    def test_a_twenty_first_order(self):
        self.refuse((DAYS, HOMES, ((0, 0, 1, 0, 1),) * 21), "orders", 20)
        self.refuse((DAYS, HOMES, ((0, 0, 1, 0, 1),) * 30), "orders", 20)

    def test_a_twenty_first_order_behind_one_that_cannot_be(self):
        orders = changed(((0, 0, 1, 0, 1),) * 21, 19, (0, 0, 0, 0, 1))
        self.refuse((DAYS, HOMES, orders), "orders", 19)

    def test_orders_of_offices_that_there_are_not(self):
        for office in (3, -1, HUGE, -HUGE):
            self.refuse_order(office, 0, 1, 5, 6)
            self.refuse_order(1, 0, office, 5, 6)

    def test_orders_for_people_that_there_are_not(self):
        for person in (3, -1, HUGE, -HUGE):
            self.refuse_order(0, person, 1, 5, 6)

    def test_the_goal_is_another_office(self):
        for office in range(3):
            self.refuse_order(office, 0, office, 5, 6)

    def test_the_days_of_an_order(self):
        for begin, end in ((0, 1), (0, 2000), (1999, 2000), (1001, 1500)):
            self.accept((DAYS, HOMES, ((0, 0, 1, begin, end),)))
        for begin, end in ((-1, 5), (5, 5), (0, 0), (6, 5), (0, 2001), (2000, 2000), (2000, 2001),
                           (0, -1), (HUGE, HUGE + 1), (0, HUGE), (-HUGE, 5)):
            self.refuse_order(0, 0, 1, begin, end)

    def test_orders_that_are_not_whole(self):
        for value in NOT_WHOLE:
            for at in range(5):
                self.refuse_order(*changed((0, 2, 1, 0, 5), at, value))

    def test_the_first_of_several_orders(self):
        orders = ((0, 0, 1, 0, 1), (1, 1, 1, 0, 1), (2, 2, 2, 2, 2))
        self.refuse((DAYS, HOMES, orders), "orders", 1)
        self.refuse((DAYS, HOMES, changed(ORDERS, 0, (3, 0, 1, 0, 1))), "orders", 0)

    # several at once

    def test_days_are_refused_ahead_of_homes_and_homes_ahead_of_orders(self):
        days, homes, orders = changed(DAYS, 2, (1, 1, 1)), changed(HOMES, 1, ()), changed(ORDERS, 0, (0, 0, 0, 0, 1))
        self.refuse((days, homes, orders), "days", 2)
        self.refuse((days, HOMES, orders), "days", 2)
        self.refuse((DAYS, homes, orders), "homes", 1)
        self.refuse((DAYS, HOMES, orders), "orders", 0)

    def test_the_town_is_refused_ahead_of_what_is_handed_in_behind_it(self):
        town = (DAYS, HOMES, ((0, 0, 1, 1, 1),))
        letter = (9, 9, 9999, 9)
        for call, more in ((lives, (9, 9999)), (holds, (9, 9, 9999)), (way, (letter,)), (why, (letter,)),
                           (rings, (9, 9999)), (to_give, (9, 99)), (failing, (9, 99))):
            error = refused(self, BadTown, call, town, *more)
            self.assertEqual((error.word, error.number), ("orders", 0))

    def test_a_refusal_changes_nothing(self):
        self.refuse((DAYS, HOMES, ((0, 0, 1, 1, 1),)), "orders", 0)
        self.refuse((DAYS, HOMES, ((0, 0, 1, 1, 1),)), "orders", 0)
        self.accept(TOWN)


if __name__ == "__main__":
    unittest.main()
