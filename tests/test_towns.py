"""[4]: where people live, and which order holds."""

import unittest

from mailslots.errors import BadLetter, BadPerson, BadTime
from mailslots.towns import holds, lives
from samples import DAYS, HOMES, HUGE, TOWN, refused, town_of, unchanged

NOT_WHOLE = (True, False, None, "0", 0.0)
NO_SUCH = (3, 6, -1, HUGE, -HUGE) + NOT_WHOLE
NO_DAY = (-1, 1001, HUGE, -HUGE) + NOT_WHOLE


class LivesTest(unittest.TestCase):
    def test_from_each_day_of_a_move_on(self):
        for day, office in ((0, 0), (9, 0), (10, 1), (11, 1), (999, 1), (1000, 0)):
            self.assertEqual(lives(TOWN, 0, day), office)

    def test_each_person_has_homes_of_their_own(self):
        self.assertEqual([lives(TOWN, person, 499) for person in range(3)], [1, 2, 2])
        self.assertEqual([lives(TOWN, person, 500) for person in range(3)], [1, 2, 1])

    def test_who_never_moves(self):
        self.assertEqual([lives(TOWN, 1, day) for day in (0, 1, 1000)], [2, 2, 2])

    def test_eight_homes(self):
        town = town_of(2, (), (tuple((at * 7, at % 2) for at in range(8)),))
        for at in range(8):
            self.assertEqual(lives(town, 0, at * 7), at % 2)
            self.assertEqual(lives(town, 0, at * 7 + 6), at % 2)

    def test_no_such_person(self):
        for person in NO_SUCH:
            refused(self, BadPerson, lives, TOWN, person, 0)
        refused(self, BadPerson, lives, (DAYS, (), ()), 0, 0)

    def test_no_such_day(self):
        for day in NO_DAY:
            refused(self, BadTime, lives, TOWN, 0, day)

    def test_the_person_is_refused_ahead_of_the_day(self):
        refused(self, BadPerson, lives, TOWN, 3, 1001)

    def test_what_is_handed_in_stays_as_it_was(self):
        unchanged(self, lives, TOWN, 0, 10)


class HoldsTest(unittest.TestCase):
    def test_from_the_first_day_to_the_last_one(self):
        for day, number in ((499, None), (500, 1), (515, 1), (529, 1), (530, None)):
            self.assertEqual(holds(TOWN, 2, 2, day), number)

    def test_an_order_of_one_day(self):
        self.assertEqual([holds(TOWN, 0, 1, day) for day in (4, 5, 6)], [None, 3, None])

    def test_of_several_the_last_one_in_orders(self):
        told = [holds(TOWN, 0, 0, day) for day in (9, 10, 19, 20, 29, 30, 39, 40)]
        self.assertEqual(told, [None, 0, 0, 2, 2, 0, 0, None])

    def test_of_several_not_the_one_that_begins_or_ends_last(self):
        town = (DAYS, HOMES, ((0, 0, 1, 50, 900), (0, 0, 2, 10, 90)))
        self.assertEqual([holds(town, 0, 0, day) for day in (49, 50, 89, 90)], [1, 1, 1, 0])

    def test_twenty_orders_at_once(self):
        town = (DAYS, HOMES, ((0, 0, 1, 0, 2000),) * 20)
        self.assertEqual([holds(town, 0, 0, day) for day in (0, 1000)], [19, 19])

    def test_for_this_office_and_this_person_alone(self):
        self.assertIsNone(holds(TOWN, 1, 0, 25))
        self.assertIsNone(holds(TOWN, 2, 0, 25))
        self.assertIsNone(holds(TOWN, 0, 1, 25))
        self.assertIsNone(holds(TOWN, 1, 2, 515))
        self.assertIsNone(holds(TOWN, 2, 1, 515))

    def test_also_where_the_person_lives(self):
        town = (DAYS, HOMES, ((2, 1, 0, 0, 1),))
        self.assertEqual((lives(town, 1, 0), holds(town, 2, 1, 0)), (2, 0))

    def test_the_first_and_the_last_day(self):
        town = (DAYS, HOMES, ((0, 0, 1, 0, 1), (0, 0, 1, 1000, 1001)))
        self.assertEqual([holds(town, 0, 0, day) for day in (0, 1, 999, 1000)], [0, None, None, 1])

    def test_no_orders(self):
        self.assertIsNone(holds((DAYS, HOMES, ()), 0, 0, 0))

    def test_no_such_office_person_or_day(self):
        for value in NO_SUCH:
            refused(self, BadLetter, holds, TOWN, value, 0, 0)
            refused(self, BadLetter, holds, TOWN, 0, value, 0)
        for day in NO_DAY:
            refused(self, BadLetter, holds, TOWN, 0, 0, day)
        refused(self, BadLetter, holds, (DAYS, (), ()), 0, 0, 0)
        refused(self, BadLetter, holds, TOWN, 3, 3, 1001)

    def test_offices_and_people_are_counted_apart(self):
        town = town_of(2, (), (((0, 0),),) * 5)
        self.assertIsNone(holds(town, 1, 4, 0))
        refused(self, BadLetter, holds, town, 4, 1, 0)

    def test_what_is_handed_in_stays_as_it_was(self):
        unchanged(self, holds, TOWN, 0, 0, 25)


if __name__ == "__main__":
    unittest.main()
