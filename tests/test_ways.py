"""[5], [6]: letters, and the way of a letter."""

import unittest

from mailslots.errors import BadLetter
from mailslots.ways import way
from samples import DAYS, HOMES, HUGE, TOWN, even_days, refused, unchanged

NOT_WHOLE = (True, False, None, "0", 0.0)
# The person lives at office 2, where none of the orders leads but those that a test adds.
AWAY = (((0, 2),),)


def town_away(*orders, days=even_days(3)):
    return days, AWAY, orders


class ReachedTest(unittest.TestCase):
    def test_given_at_once(self):
        self.assertEqual(way(TOWN, (1, 2, 7, 0)), ([(7, 2)], "reached", None))

    def test_given_where_an_order_holds(self):
        town = (DAYS, HOMES, ((2, 1, 0, 0, 2000),))
        self.assertEqual(way(town, (1, 2, 7, 0)), ([(7, 2)], "reached", None))

    def test_given_at_the_only_office(self):
        self.assertEqual(way((((0,),), (((0, 0),),), ()), (0, 0, 1000, 0)), ([(1000, 0)], "reached", None))

    def test_sent_on_and_given_so_many_days_later(self):
        self.assertEqual(way(TOWN, (0, 0, 10, 2)), ([(10, 0), (12, 1)], "reached", None))

    def test_sent_on_by_the_last_one_of_several_orders(self):
        town = (DAYS, HOMES, ((0, 0, 1, 10, 40), (0, 0, 2, 20, 30), (2, 0, 1, 25, 26)))
        self.assertEqual(way(town, (0, 0, 20, 0)), ([(20, 0), (25, 2), (26, 1)], "reached", None))

    def test_sent_on_on_the_first_and_on_the_last_day_of_an_order(self):
        town = town_away((0, 0, 2, 5, 8))
        self.assertEqual(way(town, (0, 0, 4, 1))[1], "unknown")
        self.assertEqual(way(town, (0, 0, 5, 1)), ([(5, 0), (6, 2)], "reached", None))
        self.assertEqual(way(town, (0, 0, 7, 1)), ([(7, 0), (8, 2)], "reached", None))
        self.assertEqual(way(town, (0, 0, 8, 1))[1], "unknown")

    def test_an_order_is_asked_for_on_the_day_of_the_coming(self):
        town = town_away((0, 0, 1, 0, 1), (1, 0, 2, 3, 4), days=((0, 3, 1), (1, 0, 1), (1, 1, 0)))
        self.assertEqual(way(town, (0, 0, 0, 0)), ([(0, 0), (3, 1), (4, 2)], "reached", None))

    def test_the_home_is_asked_for_on_the_day_of_the_coming(self):
        homes = (((0, 0), (5, 1)),)
        town = (((0, 4, 4), (1, 0, 1), (1, 1, 0)), homes, ((2, 0, 0, 0, 100), (0, 0, 1, 0, 100)))
        self.assertEqual(way(town, (0, 2, 3, 2)), ([(3, 2), (4, 0)], "reached", None))
        self.assertEqual(way(town, (0, 2, 4, 2)), ([(4, 2), (5, 0), (9, 1)], "reached", None))

    def test_the_person_comes_while_the_letter_is_under_way(self):
        town = (even_days(2, 9), (((0, 0), (9, 1)),), ())
        self.assertEqual(way(town, (0, 1, 8, 0)), ([(8, 1)], "unknown", (17, 0)))
        self.assertEqual(way(town, (0, 1, 9, 0)), ([(9, 1)], "reached", None))

    def test_days_above_1000_under_way(self):
        town = town_away((0, 0, 1, 1000, 1001), (1, 0, 2, 1009, 1010), days=even_days(3, 9))
        self.assertEqual(way(town, (0, 0, 1000, 0)), ([(1000, 0), (1009, 1), (1018, 2)], "reached", None))

    def test_the_last_home_lasts_above_1000(self):
        town = (even_days(2, 9), (((0, 0), (1000, 1)),), ((0, 0, 1, 0, 2000),))
        self.assertEqual(way(town, (0, 0, 1000, 0)), ([(1000, 0), (1009, 1)], "reached", None))

    def test_orders_that_begin_or_end_above_1000(self):
        orders = ((0, 0, 1, 0, 2000), (1, 0, 0, 1001, 1002), (1, 0, 2, 1004, 1005))
        town = town_away(*orders)
        self.assertEqual(way(town, (0, 0, 999, 1)), ([(999, 0), (1000, 1)], "unknown", (1000, 1)))
        self.assertEqual(way(town, (0, 0, 1000, 1)), ([(1000, 0), (1001, 1), (1002, 0)], "ring", (1003, 1)))


class BackTest(unittest.TestCase):
    def test_back_at_once_where_none_holds(self):
        self.assertEqual(way(TOWN, (0, 2, 0, 1)), ([(0, 2)], "unknown", (1, 1)))
        self.assertEqual(way(TOWN, (0, 2, 1000, 0)), ([(1000, 2)], "unknown", (1009, 0)))

    def test_back_to_a_sender_at_the_same_office_on_the_same_day(self):
        self.assertEqual(way(TOWN, (0, 2, 3, 2)), ([(3, 2)], "unknown", (3, 2)))

    def test_back_from_where_it_was_sent_on_to(self):
        self.assertEqual(way(TOWN, (0, 0, 20, 0)), ([(20, 0), (25, 2)], "unknown", (34, 0)))
        self.assertEqual(way(TOWN, (0, 0, 20, 1)), ([(20, 0), (25, 2)], "unknown", (26, 1)))

    def test_not_back_by_the_days_of_the_other_direction(self):
        town = (((0, 2), (7, 0)), (((0, 0),),), ())
        self.assertEqual(way(town, (0, 1, 1, 0)), ([(1, 1)], "unknown", (8, 0)))

    def test_not_sent_on_by_another_persons_or_offices_order(self):
        town = (even_days(3), AWAY * 2, ((0, 1, 2, 0, 9), (1, 0, 2, 0, 9)))
        self.assertEqual(way(town, (0, 0, 0, 1)), ([(0, 0)], "unknown", (1, 1)))

    def test_a_ring_of_two(self):
        town = town_away((0, 0, 1, 0, 50), (1, 0, 0, 0, 50))
        told = way(town, (0, 0, 4, 2))
        self.assertEqual(told, ([(4, 0), (5, 1), (6, 0)], "ring", (7, 2)))

    def test_a_ring_behind_a_way_to_it(self):
        days = ((0, 1, 1, 2), (1, 0, 3, 1), (1, 4, 0, 1), (1, 1, 5, 0))
        town = (days, (((0, 3),),), ((0, 0, 1, 0, 50), (1, 0, 2, 0, 50), (2, 0, 1, 0, 50)))
        self.assertEqual(way(town, (0, 0, 0, 3)), ([(0, 0), (1, 1), (4, 2), (8, 1)], "ring", (9, 3)))

    def test_twice_at_an_office_is_no_ring_by_two_orders(self):
        town = town_away((0, 0, 1, 0, 50), (1, 0, 0, 0, 50), (0, 0, 2, 2, 3))
        self.assertEqual(way(town, (0, 0, 0, 1)), ([(0, 0), (1, 1), (2, 0), (3, 2)], "reached", None))

    def test_out_of_a_ring_because_an_order_ended(self):
        town = town_away((0, 0, 1, 0, 2), (1, 0, 0, 0, 50))
        self.assertEqual(way(town, (0, 0, 0, 1)), ([(0, 0), (1, 1), (2, 0)], "unknown", (3, 1)))

    def test_an_order_that_sent_it_on_is_not_passed_over_for_one_ahead_of_it(self):
        town = town_away((0, 0, 2, 0, 50), (0, 0, 1, 0, 50), (1, 0, 0, 0, 50))
        self.assertEqual(way(town, (0, 0, 0, 2)), ([(0, 0), (1, 1), (2, 0)], "ring", (3, 2)))

    def test_sent_on_by_each_of_twenty_orders_once_and_back(self):
        orders = [(at % 2, 0, 1 - at % 2, at, at + 1) for at in range(20)]
        comings = [(day, day % 2) for day in range(21)]
        self.assertEqual(way(town_away(*orders), (0, 0, 0, 1)), (comings, "unknown", (21, 1)))
        orders[0] = (0, 0, 1, 0, 2000)
        self.assertEqual(way(town_away(*orders), (0, 0, 0, 1)), (comings, "ring", (21, 1)))

    def test_sent_on_by_each_of_twenty_orders_at_the_most_days(self):
        orders = [(at % 2, 0, 1 - at % 2, 1000 + at * 9, 1001 + at * 9) for at in range(20)]
        comings = [(1000 + at * 9, at % 2) for at in range(21)]
        told = way(town_away(*orders, days=even_days(3, 9)), (0, 0, 1000, 2))
        self.assertEqual(told, (comings, "unknown", (1189, 2)))


class LettersTest(unittest.TestCase):
    def test_no_such_person_or_office(self):
        for value in (3, 6, -1, HUGE, -HUGE) + NOT_WHOLE:
            refused(self, BadLetter, way, TOWN, (value, 0, 0, 0))
            refused(self, BadLetter, way, TOWN, (0, value, 0, 0))
            refused(self, BadLetter, way, TOWN, (0, 0, 0, value))
        refused(self, BadLetter, way, (DAYS, (), ()), (0, 0, 0, 0))

    def test_the_sender_is_refused_where_the_letter_reaches_too(self):
        refused(self, BadLetter, way, TOWN, (1, 2, 7, 3))

    def test_the_first_and_the_last_day(self):
        self.assertEqual(way(TOWN, (0, 0, 0, 0)), ([(0, 0)], "reached", None))
        self.assertEqual(way(TOWN, (0, 0, 1000, 0)), ([(1000, 0)], "reached", None))
        for day in (-1, 1001, HUGE, -HUGE) + NOT_WHOLE:
            refused(self, BadLetter, way, TOWN, (0, 0, day, 0))

    def test_offices_and_people_are_counted_apart(self):
        town = (even_days(2), (((0, 0),),) * 5, ())
        self.assertEqual(way(town, (4, 0, 0, 1))[1], "reached")
        refused(self, BadLetter, way, town, (0, 4, 0, 1))
        refused(self, BadLetter, way, town, (0, 0, 0, 4))

    def test_several_at_once(self):
        refused(self, BadLetter, way, TOWN, (3, 3, 1001, 3))


class ToldTest(unittest.TestCase):
    def test_what_is_handed_in_stays_as_it_was(self):
        told = unchanged(self, way, TOWN, (0, 0, 20, 0))
        self.assertEqual(told[1], "unknown")

    def test_what_is_told_may_be_changed(self):
        for letter in ((0, 0, 20, 0), (0, 0, 10, 2), (1, 2, 7, 0)):
            first = way(TOWN, letter)
            kept = list(first[0])
            first[0].clear()
            second = way(TOWN, letter)
            self.assertEqual(second[0], kept)
            self.assertEqual(first[0], [])
            self.assertIsNot(first[0], second[0])

    def test_a_refusal_changes_nothing(self):
        told = way(TOWN, (0, 0, 20, 0))
        refused(self, BadLetter, way, TOWN, (3, 0, 20, 0))
        self.assertEqual(way(TOWN, (0, 0, 20, 0)), told)

    def test_the_kinds_of_what_is_told(self):
        told = way(TOWN, (0, 0, 20, 0))
        self.assertEqual([part.__class__ for part in told], [list, str, tuple])
        self.assertEqual({stop.__class__ for stop in told[0]}, {tuple})
        self.assertIs(told.__class__, tuple)


if __name__ == "__main__":
    unittest.main()
