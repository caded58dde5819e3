"""[8]: rings of orders."""

import random
import unittest
from itertools import permutations

from mailslots.errors import BadPerson, BadTime
from mailslots.rings import rings
from mailslots.towns import holds
from samples import DAYS, HUGE, TOWN, refused, town_of, unchanged

NOT_WHOLE = (True, False, None, "0", 0.0)


def sends(*pairs, person=0, begin=0, end=2000):
    """Orders that send on from each pair's office to its goal."""
    return tuple((office, person, goal, begin, end) for office, goal in pairs)


def rings_by_trial(town, person, day):
    """The rings, found by trying all offices in all turns."""
    offices = range(len(town[0]))
    numbers = [holds(town, office, person, day) for office in offices]
    goals = [None if number is None else town[2][number][2] for number in numbers]
    found = []
    for many in range(2, len(offices) + 1):
        for ring in permutations(offices, many):
            if ring[0] == min(ring) and [goals[office] for office in ring] == [*ring[1:], ring[0]]:
                found.append(ring)
    return sorted(found)


class RingsTest(unittest.TestCase):
    def tell(self, orders, told, offices=6, person=0, day=0):
        self.assertEqual(rings(town_of(offices, orders), person, day), told)

    def test_no_orders(self):
        self.tell((), [])
        self.tell((), [], offices=1)

    def test_no_ring(self):
        self.tell(sends((0, 1), (1, 2), (2, 3), (4, 3)), [])

    def test_a_ring_of_two(self):
        self.tell(sends((0, 1), (1, 0)), [(0, 1)], offices=2)
        self.tell(sends((5, 3), (3, 5)), [(3, 5)])

    def test_a_ring_of_all_offices(self):
        self.tell(sends((3, 0), (0, 4), (4, 1), (1, 5), (5, 2), (2, 3)), [(0, 4, 1, 5, 2, 3)])

    def test_a_ring_goes_the_way_of_its_orders(self):
        self.tell(sends((0, 1), (1, 2), (2, 0)), [(0, 1, 2)])
        self.tell(sends((0, 2), (2, 1), (1, 0)), [(0, 2, 1)])

    def test_several_rings_rising(self):
        self.tell(sends((4, 5), (5, 4), (2, 3), (3, 2), (0, 1), (1, 0)), [(0, 1), (2, 3), (4, 5)])
        self.tell(sends((1, 5), (5, 3), (3, 1), (4, 0), (0, 2), (2, 4)), [(0, 2, 4), (1, 5, 3)])
        self.tell(sends((0, 5), (5, 0), (1, 2), (2, 1)), [(0, 5), (1, 2)])

    def test_a_way_into_a_ring_is_no_part_of_it(self):
        self.tell(sends((0, 1), (1, 2), (2, 1)), [(1, 2)])
        self.tell(sends((0, 3), (1, 0), (3, 4), (4, 3)), [(3, 4)])

    def test_no_ring_by_an_order_that_another_one_stands_over(self):
        self.tell(sends((0, 1), (1, 0), (1, 2)), [])
        self.tell(sends((0, 2), (1, 0), (0, 1)), [(0, 1)])

    def test_by_the_orders_for_this_person_alone(self):
        homes = (((0, 0),), ((0, 3),))
        orders = sends((0, 1)) + sends((1, 0), person=1) + sends((2, 1), (1, 2)) + sends((0, 1), person=1)
        town = town_of(4, orders, homes)
        self.assertEqual(rings(town, 0, 5), [(1, 2)])
        self.assertEqual(rings(town, 1, 5), [(0, 1)])

    def test_on_the_days_on_which_all_of_its_orders_hold(self):
        orders = sends((0, 1), begin=3, end=8) + sends((1, 0), begin=5, end=20)
        for day, told in ((4, []), (5, [(0, 1)]), (7, [(0, 1)]), (8, [])):
            self.tell(orders, told, day=day)

    def test_the_first_and_the_last_day(self):
        orders = sends((0, 1), (1, 0), begin=0, end=1) + sends((1, 2), (2, 1), begin=1000, end=1001)
        for day, told in ((0, [(0, 1)]), (1, []), (999, []), (1000, [(1, 2)])):
            self.tell(orders, told, day=day)

    def test_a_ring_through_the_office_where_the_person_lives(self):
        self.tell(sends((0, 1), (1, 0)), [(0, 1)])

    def test_the_same_as_by_trial(self):
        chance = random.Random(8)
        for _ in range(150):
            pairs = [tuple(chance.sample(range(5), 2)) for _ in range(chance.randrange(12))]
            orders = [(office, chance.randrange(2), goal, 0, chance.randrange(1, 4)) for office, goal in pairs]
            town = town_of(5, orders, (((0, 0),), ((0, 1),)))
            for day in range(3):
                self.assertEqual(rings(town, 0, day), rings_by_trial(town, 0, day))


class RefusedTest(unittest.TestCase):
    def test_no_such_person(self):
        for person in (3, 6, -1, HUGE, -HUGE) + NOT_WHOLE:
            refused(self, BadPerson, rings, TOWN, person, 0)
        refused(self, BadPerson, rings, (DAYS, (), ()), 0, 0)

    def test_no_such_day(self):
        for day in (-1, 1001, HUGE, -HUGE) + NOT_WHOLE:
            refused(self, BadTime, rings, TOWN, 0, day)

    def test_the_person_is_refused_ahead_of_the_day(self):
        refused(self, BadPerson, rings, TOWN, 3, 1001)


class ToldTest(unittest.TestCase):
    TOWN = town_of(4, sends((0, 1), (1, 0), (2, 3), (3, 2)))

    def test_what_is_handed_in_stays_as_it_was(self):
        self.assertEqual(unchanged(self, rings, self.TOWN, 0, 3), [(0, 1), (2, 3)])

    def test_what_is_told_may_be_changed(self):
        first = rings(self.TOWN, 0, 3)
        first.pop()
        first.append("more")
        self.assertEqual(rings(self.TOWN, 0, 3), [(0, 1), (2, 3)])
        nothing = rings(TOWN, 0, 3)
        nothing.append("more")
        self.assertEqual(rings(TOWN, 0, 3), [])

    def test_the_kinds_of_what_is_told(self):
        told = rings(self.TOWN, 0, 3)
        self.assertIs(told.__class__, list)
        self.assertEqual({ring.__class__ for ring in told}, {tuple})


if __name__ == "__main__":
    unittest.main()
