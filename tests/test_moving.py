"""[10], [11]: comings to old homes, and the orders of a person who moves."""

import random
import unittest

from mailslots.errors import BadKeep, BadPerson
from mailslots.moving import failing, to_give
from mailslots.towns import holds, lives
from mailslots.ways import way
from samples import DAYS, HOMES, HUGE, TOWN, even_days, refused, unchanged

NOT_WHOLE = (True, False, None, "1", 1.0)
# Person 0 never moves, person 1 moves 0 -> 1.
ONE_MOVE = (((0, 2),), ((0, 0), (10, 1)))


def moving(homes, *orders, days=even_days(4)):
    """A town with one person, who lives at these homes in turn."""
    return days, (homes,), orders


def one_move(*orders):
    return even_days(3), ONE_MOVE, orders


def uses(town, person, office, day):
    """The (number of order, day) of each sending on of a letter that comes to the office."""
    stops, _, _ = way(town, (person, office, day, office))
    told = [(holds(town, at, person, when), when) for when, at in stops if lives(town, person, when) != at]
    return [use for use in told if use[0] is not None]


def comings_by_trial(town, person, keep):
    """All comings on the days up to 1000, asked for day by day."""
    homes = [lives(town, person, day) for day in range(1001)]
    found = []
    for office in range(len(town[0])):
        left = None
        for day, home in enumerate(homes):
            if home == office:
                left = day + 1
            elif left is not None and day - left < keep:
                found.append((office, day))
    return found


def random_town(chance, last_day, orders=0):
    """A town of people who move often, up to a last day, with some orders."""
    offices = chance.randrange(2, 5)
    days = tuple(tuple(0 if goal == office else chance.randrange(1, 10) for goal in range(offices))
                 for office in range(offices))
    homes = []
    for _ in range(2):
        row = [(0, chance.randrange(offices))]
        for day in sorted(chance.sample(range(1, last_day + 1), chance.randrange(8))):
            row.append((day, chance.choice([office for office in range(offices) if office != row[-1][1]])))
        homes.append(tuple(row))
    rows = []
    for _ in range(orders):
        office, goal = chance.sample(range(offices), 2)
        begin = chance.randrange(last_day)
        end = min(begin + chance.randrange(1, 2 * last_day), 2000)
        rows.append((office, chance.randrange(2), goal, begin, end))
    return days, tuple(homes), tuple(rows)


class FailingTest(unittest.TestCase):
    def test_who_never_moves(self):
        for keep in (1, 60):
            self.assertIsNone(failing(one_move(), 0, keep))
            self.assertIsNone(failing(TOWN, 1, keep))

    def test_the_day_of_the_move_without_any_orders(self):
        for keep in (1, 2, 60):
            self.assertEqual(failing(one_move(), 1, keep), (0, 10))

    def test_an_order_that_lasts_for_all_comings_or_one_day_less(self):
        for keep in (1, 2, 30, 60):
            self.assertIsNone(failing(one_move((0, 1, 1, 10, 10 + keep)), 1, keep))
            if keep > 1:
                told = failing(one_move((0, 1, 1, 10, 9 + keep)), 1, keep)
                self.assertEqual(told, (0, 9 + keep))

    def test_a_keep_of_1_is_the_day_of_the_move_alone(self):
        self.assertIsNone(failing(one_move((0, 1, 1, 10, 11)), 1, 1))
        self.assertEqual(failing(one_move((0, 1, 1, 9, 10)), 1, 1), (0, 10))
        self.assertEqual(failing(one_move((0, 1, 1, 11, 2000)), 1, 1), (0, 10))

    def test_an_order_that_begins_too_late(self):
        self.assertEqual(failing(one_move((0, 1, 1, 11, 2000)), 1, 5), (0, 10))
        self.assertEqual(failing(one_move((0, 1, 1, 10, 12), (0, 1, 1, 13, 2000)), 1, 5), (0, 12))

    def test_an_order_for_another_person(self):
        self.assertEqual(failing(one_move((0, 0, 1, 0, 2000)), 1, 5), (0, 10))

    def test_a_letter_may_reach_through_other_offices(self):
        self.assertIsNone(failing(one_move((0, 1, 2, 10, 15), (2, 1, 1, 11, 16)), 1, 5))
        self.assertEqual(failing(one_move((0, 1, 2, 10, 15), (2, 1, 1, 11, 15)), 1, 5), (0, 14))

    def test_a_ring_fails(self):
        self.assertEqual(failing(one_move((0, 1, 2, 0, 90), (2, 1, 0, 0, 90)), 1, 5), (0, 10))
        told = failing(one_move((0, 1, 1, 0, 90), (0, 1, 2, 12, 90), (2, 1, 0, 0, 90)), 1, 5)
        self.assertEqual(told, (0, 12))

    def test_the_last_one_in_orders_sends_on(self):
        self.assertIsNone(failing(one_move((0, 1, 2, 10, 90), (0, 1, 1, 10, 90)), 1, 5))
        self.assertEqual(failing(one_move((0, 1, 1, 10, 90), (0, 1, 2, 10, 90)), 1, 5), (0, 10))

    def test_as_tuples_ascend_the_least_office_first(self):
        town = moving(((0, 2), (10, 1), (100, 0), (200, 3)))
        self.assertEqual(failing(town, 0, 5), (0, 200))
        self.assertEqual(failing(moving(((0, 2), (10, 1), (100, 0), (200, 3)), (0, 0, 3, 0, 2000)), 0, 5), (1, 100))
        self.assertEqual(failing(moving(((0, 2), (10, 1), (50, 2))), 0, 5), (1, 50))

    def test_as_tuples_ascend_the_least_day_first(self):
        homes = ((0, 0), (10, 1), (20, 0), (30, 1))
        self.assertEqual(failing(moving(homes), 0, 5), (0, 10))
        self.assertEqual(failing(moving(homes, (0, 0, 1, 10, 15)), 0, 5), (0, 30))
        self.assertEqual(failing(moving(homes, (0, 0, 1, 10, 12), (0, 0, 1, 30, 35)), 0, 5), (0, 12))

    def test_not_while_they_live_there_again(self):
        town = moving(((0, 0), (10, 1), (12, 0)), (0, 0, 1, 10, 12), (1, 0, 0, 12, 17))
        self.assertIsNone(failing(town, 0, 5))
        self.assertIsNone(failing(moving(((0, 0), (10, 1), (11, 0)), (0, 0, 1, 10, 11), (1, 0, 0, 11, 71)), 0, 60))
        self.assertEqual(failing(moving(((0, 0), (10, 1), (12, 0)), (1, 0, 0, 12, 17)), 0, 5), (0, 10))

    def test_again_when_they_left_it_again(self):
        homes = ((0, 0), (10, 1), (12, 0), (14, 2))
        orders = ((0, 0, 1, 10, 12), (1, 0, 0, 12, 2000))
        self.assertEqual(failing(moving(homes, *orders), 0, 5), (0, 14))
        self.assertEqual(failing(moving(homes, *orders, (0, 0, 2, 13, 18)), 0, 5), (0, 18))
        self.assertIsNone(failing(moving(homes, *orders, (0, 0, 2, 13, 19), (1, 0, 2, 14, 2000)), 0, 5))

    def test_the_homes_of_the_day_of_each_coming(self):
        # Sent on on day 13, the letter comes to office 1 on day 14, when the person is gone.
        homes = ((0, 0), (10, 1), (14, 2))
        self.assertEqual(failing(moving(homes, (0, 0, 1, 10, 2000)), 0, 5), (0, 13))
        self.assertIsNone(failing(moving(homes, (0, 0, 1, 10, 2000), (1, 0, 2, 14, 2000)), 0, 5))

    def test_comings_above_day_1000(self):
        homes = ((0, 0), (1000, 1))
        self.assertEqual(failing(moving(homes), 0, 60), (0, 1000))
        self.assertEqual(failing(moving(homes, (0, 0, 1, 1000, 1001)), 0, 60), (0, 1001))
        self.assertEqual(failing(moving(homes, (0, 0, 1, 1000, 1059)), 0, 60), (0, 1059))
        self.assertIsNone(failing(moving(homes, (0, 0, 1, 1000, 1060)), 0, 60))
        self.assertIsNone(failing(moving(homes, (0, 0, 1, 1000, 1001)), 0, 1))

    def test_agrees_with_the_ways(self):
        chance = random.Random(3)
        failed = 0
        for _ in range(60):
            town = random_town(chance, chance.choice((20, 200, 900)), chance.randrange(20))
            keep = chance.choice((1, 2, 9, 30, 60))
            for person in (0, 1):
                bad = [(office, day) for office, day in comings_by_trial(town, person, keep)
                       if way(town, (person, office, day, office))[1] != "reached"]
                self.assertEqual(failing(town, person, keep), min(bad, default=None))
                failed += 1 if bad else 0
        self.assertGreater(failed, 20)


class ToGiveTest(unittest.TestCase):
    def test_who_never_moves(self):
        self.assertEqual(to_give(one_move(), 0, 60), [])
        self.assertEqual(to_give(TOWN, 1, 1), [])

    def test_one_move(self):
        for keep in (1, 2, 30, 60):
            self.assertEqual(to_give(one_move(), 1, keep), [(0, 1, 1, 10, 10 + keep)])

    def test_the_towns_own_orders_do_not_matter(self):
        town = one_move((0, 1, 2, 0, 2000), (1, 1, 0, 0, 2000), (0, 1, 1, 10, 2000))
        self.assertEqual(to_give(town, 1, 5), [(0, 1, 1, 10, 15)])

    def test_moves_in_turn_not_by_offices(self):
        told = to_give(moving(((0, 3), (100, 2), (300, 0), (500, 1))), 0, 7)
        self.assertEqual(told, [(3, 0, 2, 100, 107), (2, 0, 0, 300, 307), (0, 0, 1, 500, 507)])

    def test_there_and_back(self):
        told = to_give(moving(((0, 0), (100, 1), (200, 0), (300, 1))), 0, 7)
        self.assertEqual(told, [(0, 0, 1, 100, 107), (1, 0, 0, 200, 207), (0, 0, 1, 300, 307)])

    def test_longer_for_letters_that_are_sent_on_late(self):
        # Office 0 has comings up to day 14; the last one comes to office 1 on day 23.
        town = moving(((0, 0), (10, 1), (12, 2)), days=even_days(4, 9))
        self.assertEqual(to_give(town, 0, 5), [(0, 0, 1, 10, 15), (1, 0, 2, 12, 24)])
        self.assertEqual(to_give(town, 0, 1), [(0, 0, 1, 10, 11), (1, 0, 2, 12, 20)])

    def test_longer_by_the_days_of_each_way(self):
        homes = ((0, 0), (10, 1), (11, 2), (12, 3))
        days = ((0, 9, 1, 1), (1, 0, 8, 1), (1, 1, 0, 7), (1, 1, 1, 0))
        told = to_give(moving(homes, days=days), 0, 3)
        # The last coming to office 0 is on day 12; from there it comes to 1 on 21 and to 2 on 29.
        self.assertEqual(told, [(0, 0, 1, 10, 13), (1, 0, 2, 11, 22), (2, 0, 3, 12, 30)])

    def test_not_longer_for_letters_that_come_ahead_of_the_next_move(self):
        town = moving(((0, 0), (10, 1), (60, 2)), days=even_days(4, 9))
        self.assertEqual(to_give(town, 0, 30), [(0, 0, 1, 10, 40), (1, 0, 2, 60, 90)])
        # What comes to office 0 on day 50 is given at office 1 on day 59. What comes later is sent
        # on from there too, but ahead of the last coming to office 1.
        self.assertEqual(to_give(town, 0, 41), [(0, 0, 1, 10, 51), (1, 0, 2, 60, 101)])
        self.assertEqual(to_give(town, 0, 60), [(0, 0, 1, 10, 70), (1, 0, 2, 60, 120)])

    def test_not_while_they_live_there_again(self):
        town = moving(((0, 0), (10, 1), (12, 0)))
        self.assertEqual(to_give(town, 0, 5), [(0, 0, 1, 10, 12), (1, 0, 0, 12, 17)])
        self.assertEqual(to_give(town, 0, 60), [(0, 0, 1, 10, 12), (1, 0, 0, 12, 72)])

    def test_the_later_order_of_two_at_an_office(self):
        town = moving(((0, 0), (10, 1), (12, 0), (14, 2)))
        told = to_give(town, 0, 5)
        self.assertEqual(told, [(0, 0, 1, 10, 12), (1, 0, 0, 12, 17), (0, 0, 2, 14, 19)])

    def test_round_an_office_that_they_come_back_to(self):
        # What comes to office 0 on day 10 is at 1 on day 19, back at 0 on 28 and at 2 on 37.
        town = moving(((0, 0), (10, 1), (11, 0), (12, 2)), days=even_days(4, 9))
        told = to_give(town, 0, 1)
        self.assertEqual(told, [(0, 0, 1, 10, 11), (1, 0, 0, 11, 20), (0, 0, 2, 12, 29)])
        self.assertIsNone(failing((town[0], town[1], tuple(told)), 0, 1))

    def test_seven_moves(self):
        homes = tuple((at, at % 4) for at in range(8))
        told = to_give(moving(homes, days=even_days(4, 9)), 0, 1)
        # From day 7 on each office has left its first order behind for its second one. What comes
        # to office 3 on day 4 is at 0 on day 13, at 1 on 22, at 2 on 31 and given at 3.
        self.assertEqual(told, [
            (0, 0, 1, 1, 2), (1, 0, 2, 2, 3), (2, 0, 3, 3, 4), (3, 0, 0, 4, 5),
            (0, 0, 1, 5, 14), (1, 0, 2, 6, 23), (2, 0, 3, 7, 32),
        ])

    def test_above_day_1000(self):
        self.assertEqual(to_give(moving(((0, 0), (1000, 1))), 0, 1), [(0, 0, 1, 1000, 1001)])
        self.assertEqual(to_give(moving(((0, 0), (1000, 1))), 0, 60), [(0, 0, 1, 1000, 1060)])
        town = moving(((0, 0), (999, 1), (1000, 2)), days=even_days(4, 9))
        self.assertEqual(to_give(town, 0, 60), [(0, 0, 1, 999, 1059), (1, 0, 2, 1000, 1068)])

    def test_one_day_less_fails(self):
        town = moving(((0, 0), (10, 1), (12, 2)), days=even_days(4, 9))
        first, second = to_give(town, 0, 5)
        for orders, told in (((first[:4] + (14,), second), (0, 14)), ((first, second[:4] + (23,)), (0, 14))):
            self.assertEqual(failing((town[0], town[1], orders), 0, 5), told)

    def test_none_fails_and_no_order_lasts_longer_than_it_is_used(self):
        chance = random.Random(5)
        for _ in range(60):
            days, homes, orders = random_town(chance, chance.choice((8, 20, 200, 900)), 3)
            keep = chance.choice((1, 2, 9, 30, 60))
            for person in (0, 1):
                given = to_give((days, homes, orders), person, keep)
                self.assertEqual([row[:4] for row in given], [
                    (ahead[1], person, row[1], row[0]) for ahead, row in zip(homes[person], homes[person][1:])
                ])
                town = (days, homes, tuple(given))
                self.assertIsNone(failing(town, person, keep))
                last = {}
                for office, day in comings_by_trial(town, person, keep):
                    self.assertEqual(way(town, (person, office, day, office))[1], "reached")
                    for number, used in uses(town, person, office, day):
                        last[number] = max(used, last.get(number, 0))
                self.assertEqual([last[number] + 1 for number in range(len(given))], [row[4] for row in given])

    def test_none_fails_up_to_day_1000_either(self):
        chance = random.Random(6)
        for _ in range(60):
            days, homes, _ = random_town(chance, 1000)
            # The last move of each person is put on day 1000.
            shifted = tuple(tuple((day + 1000 - row[-1][0] if day else 0, office) for day, office in row)
                            for row in homes)
            for person in (0, 1):
                given = tuple(to_give((days, shifted, ()), person, 60))
                self.assertIsNone(failing((days, shifted, given), person, 60))


class RefusedTest(unittest.TestCase):
    def test_no_such_person(self):
        for call in (failing, to_give):
            for person in (3, 6, -1, HUGE, -HUGE) + NOT_WHOLE:
                refused(self, BadPerson, call, TOWN, person, 5)
            refused(self, BadPerson, call, (DAYS, (), ()), 0, 5)

    def test_no_such_keep(self):
        for call in (failing, to_give):
            for keep in (0, 61, -1, HUGE, -HUGE) + NOT_WHOLE:
                refused(self, BadKeep, call, TOWN, 0, keep)
                refused(self, BadKeep, call, TOWN, 1, keep)

    def test_the_person_is_refused_ahead_of_the_keep(self):
        for call in (failing, to_give):
            refused(self, BadPerson, call, TOWN, 3, 0)

    def test_a_refusal_changes_nothing(self):
        told = to_give(TOWN, 0, 5)
        refused(self, BadKeep, to_give, TOWN, 0, 61)
        self.assertEqual(to_give(TOWN, 0, 5), told)


class ToldTest(unittest.TestCase):
    def test_what_is_handed_in_stays_as_it_was(self):
        self.assertEqual(unchanged(self, failing, TOWN, 0, 60), (0, 20))
        unchanged(self, to_give, TOWN, 0, 60)

    def test_what_is_told_may_be_changed(self):
        first = to_give(TOWN, 0, 5)
        kept = list(first)
        first.clear()
        self.assertEqual(to_give(TOWN, 0, 5), kept)
        nothing = to_give(TOWN, 1, 5)
        nothing.append("more")
        self.assertEqual(to_give(TOWN, 1, 5), [])

    def test_the_kinds_of_what_is_told(self):
        told = to_give(TOWN, 0, 5)
        self.assertEqual([told.__class__, told[0].__class__], [list, tuple])
        self.assertIs(failing((DAYS, HOMES, ()), 0, 5).__class__, tuple)


if __name__ == "__main__":
    unittest.main()
