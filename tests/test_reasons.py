"""[5], [7]: why a letter comes back."""

import random
import unittest

from mailslots.errors import BadLetter
from mailslots.reasons import why
from mailslots.ways import way
from samples import DAYS, HOMES, HUGE, TOWN, even_days, refused, unchanged

NOT_WHOLE = (True, False, None, "0", 0.0)
# Person 0 lives at office 3, person 1 at office 2.
AWAY = (((0, 3),), ((0, 2),))


def town_away(*orders, days=even_days(4)):
    return days, AWAY, orders


class ReachedTest(unittest.TestCase):
    def test_given_at_once(self):
        self.assertIsNone(why(TOWN, (1, 2, 7, 0)))

    def test_sent_on_and_given(self):
        self.assertIsNone(why(TOWN, (0, 0, 10, 2)))
        self.assertIsNone(why(town_away((0, 0, 1, 0, 9), (1, 0, 3, 0, 9)), (0, 0, 4, 2)))

    def test_given_behind_twice_at_an_office(self):
        town = town_away((0, 0, 1, 0, 50), (1, 0, 0, 0, 50), (0, 0, 3, 2, 3))
        self.assertIsNone(why(town, (0, 0, 0, 1)))


class RingTest(unittest.TestCase):
    def test_a_ring_of_two(self):
        town = town_away((0, 0, 1, 0, 50), (1, 0, 0, 0, 50))
        self.assertEqual(why(town, (0, 0, 4, 2)), ("ring", [0, 1]))
        self.assertEqual(why(town, (0, 1, 4, 2)), ("ring", [1, 0]))

    def test_numbers_of_orders_in_turn_not_offices(self):
        town = town_away((1, 1, 0, 0, 50), (2, 0, 0, 0, 50), (0, 0, 1, 0, 50), (1, 0, 2, 0, 50))
        self.assertEqual(why(town, (0, 0, 4, 3)), ("ring", [2, 3, 1]))
        self.assertEqual(why(town, (0, 2, 4, 3)), ("ring", [1, 2, 3]))

    def test_without_the_way_to_the_ring(self):
        town = town_away((0, 0, 1, 0, 50), (1, 0, 2, 0, 50), (2, 0, 1, 0, 50))
        self.assertEqual(why(town, (0, 0, 4, 3)), ("ring", [1, 2]))

    def test_a_ring_that_passes_an_office_twice(self):
        orders = ((0, 0, 1, 0, 50), (1, 0, 0, 0, 3), (0, 0, 2, 2, 3), (2, 0, 0, 0, 50))
        # On days 0 to 4 it comes to 0, 1, 0, 2, 0, where order 0 holds again.
        self.assertEqual(why(town_away(*orders), (0, 0, 0, 3)), ("ring", [0, 1, 2, 3]))

    def test_by_the_order_that_had_sent_it_on_not_by_another_one_there(self):
        orders = ((0, 0, 1, 0, 1), (1, 0, 0, 0, 50), (0, 0, 1, 1, 50))
        # It is sent from 0 by order 0, then by order 2, whereas order 1 is the one that comes twice.
        self.assertEqual(why(town_away(*orders), (0, 0, 0, 3)), ("ring", [1, 2]))

    def test_all_twenty_orders(self):
        orders = [(at % 2, 0, 1 - at % 2, at, at + 1) for at in range(20)]
        orders[0] = (0, 0, 1, 0, 2000)
        self.assertEqual(why(town_away(*orders), (0, 0, 0, 1)), ("ring", list(range(20))))

    def test_above_day_1000(self):
        town = town_away((0, 0, 1, 1000, 1900), (1, 0, 0, 1009, 1900), days=even_days(4, 9))
        self.assertEqual(why(town, (0, 0, 1000, 2)), ("ring", [0, 1]))


class EndedTest(unittest.TestCase):
    def test_on_the_day_on_which_it_ended_and_later(self):
        town = town_away((0, 0, 3, 5, 8))
        self.assertIsNone(why(town, (0, 0, 7, 1)))
        for day in (8, 9, 1000):
            self.assertEqual(why(town, (0, 0, day, 1)), ("ended", 0))

    def test_the_one_that_ended_last(self):
        town = town_away((0, 0, 1, 0, 5), (0, 0, 2, 3, 9), (0, 0, 1, 4, 7))
        self.assertEqual(why(town, (0, 0, 9, 1)), ("ended", 1))
        self.assertEqual(why(town, (0, 0, 500, 1)), ("ended", 1))

    def test_not_the_one_that_began_last(self):
        town = town_away((0, 0, 1, 6, 8), (0, 0, 1, 0, 9))
        self.assertEqual(why(town, (0, 0, 20, 1)), ("ended", 1))

    def test_of_several_the_last_one_in_orders(self):
        town = town_away((0, 0, 1, 0, 5), (0, 0, 2, 3, 9), (0, 0, 1, 8, 9), (0, 0, 1, 0, 8))
        self.assertEqual(why(town, (0, 0, 9, 1)), ("ended", 2))

    def test_only_those_that_ended_by_then(self):
        town = town_away((0, 0, 1, 0, 5), (0, 0, 1, 20, 25), (0, 0, 1, 0, 4))
        self.assertEqual(why(town, (0, 0, 5, 1)), ("ended", 0))
        self.assertEqual(why(town, (0, 0, 19, 1)), ("ended", 0))
        self.assertEqual(why(town, (0, 0, 25, 1)), ("ended", 1))

    def test_ahead_of_one_that_is_early(self):
        town = town_away((0, 0, 1, 50, 60), (0, 0, 1, 0, 2))
        self.assertEqual(why(town, (0, 0, 49, 1)), ("ended", 1))

    def test_at_the_last_stop_not_at_an_earlier_one(self):
        town = town_away((0, 0, 1, 0, 50), (0, 0, 1, 0, 2), (1, 0, 3, 0, 6), (1, 0, 3, 0, 5))
        self.assertIsNone(why(town, (0, 0, 4, 2)))
        self.assertEqual(why(town, (0, 0, 5, 2)), ("ended", 2))

    def test_on_the_day_of_the_last_stop_not_of_the_first_one(self):
        town = town_away((0, 0, 1, 0, 50), (1, 0, 3, 0, 13), (1, 0, 3, 20, 30), days=even_days(4, 9))
        self.assertEqual(why(town, (0, 0, 4, 2)), ("ended", 1))

    def test_an_order_that_sent_it_on_may_have_ended(self):
        town = town_away((0, 0, 1, 0, 2), (1, 0, 0, 0, 50))
        self.assertEqual(why(town, (0, 0, 0, 1)), ("ended", 0))

    def test_above_day_1000(self):
        town = town_away((0, 0, 1, 0, 1001), (1, 0, 3, 0, 1009), (1, 0, 3, 1010, 2000), days=even_days(4, 9))
        self.assertEqual(why(town, (0, 0, 1000, 2)), ("ended", 1))


class EarlyTest(unittest.TestCase):
    def test_up_to_the_day_ahead_of_the_first_one(self):
        town = town_away((0, 0, 3, 5, 8))
        for day in (0, 4):
            self.assertEqual(why(town, (0, 0, day, 1)), ("early", 0))
        self.assertIsNone(why(town, (0, 0, 5, 1)))

    def test_the_one_that_begins_first(self):
        town = town_away((0, 0, 1, 9, 10), (0, 0, 1, 7, 2000), (0, 0, 1, 8, 9))
        self.assertEqual(why(town, (0, 0, 6, 1)), ("early", 1))

    def test_of_several_the_first_one_in_orders(self):
        town = town_away((0, 0, 1, 9, 10), (0, 0, 1, 7, 20), (0, 0, 2, 7, 9), (0, 0, 1, 7, 30))
        self.assertEqual(why(town, (0, 0, 6, 1)), ("early", 1))

    def test_at_the_last_stop(self):
        town = town_away((0, 0, 1, 0, 50), (0, 0, 1, 60, 70), (1, 0, 3, 11, 12), (1, 0, 3, 10, 12))
        self.assertEqual(why(town, (0, 0, 4, 2)), ("early", 3))

    def test_above_day_1000(self):
        town = town_away((0, 0, 1, 1000, 1001), (1, 0, 3, 1010, 2000), days=even_days(4, 9))
        self.assertEqual(why(town, (0, 0, 1000, 2)), ("early", 1))


class NoneTest(unittest.TestCase):
    def test_no_orders_at_all(self):
        self.assertEqual(why(town_away(), (0, 0, 4, 2)), ("none",))

    def test_other_people_and_offices_do_not_count(self):
        town = town_away((0, 1, 1, 0, 2), (1, 0, 3, 0, 2), (0, 1, 1, 50, 60), (1, 0, 0, 50, 60))
        self.assertEqual(why(town, (0, 0, 4, 2)), ("none",))
        self.assertEqual(why(town, (1, 1, 4, 2)), ("none",))
        self.assertEqual(why(town, (1, 0, 4, 2)), ("ended", 0))
        self.assertEqual(why(town, (0, 1, 4, 2)), ("ended", 1))

    def test_at_the_last_stop(self):
        town = town_away((0, 0, 2, 0, 50), (0, 0, 2, 0, 2))
        self.assertEqual(why(town, (0, 0, 4, 1)), ("none",))


class ByTrialTest(unittest.TestCase):
    def why_unknown(self, town, person, stop):
        day, office = stop
        there = [(end, at, begin) for at, (where, whom, _, begin, end) in enumerate(town[2])
                 if (where, whom) == (office, person)]
        over = sorted(row for row in there if row[0] <= day)
        if over:
            return "ended", over[-1][1]
        if there:
            return "early", sorted((begin, at) for _, at, begin in there)[0][1]
        return ("none",)

    def test_agrees_with_the_way(self):
        chance = random.Random(7)
        words = []
        for _ in range(600):
            orders = []
            for _ in range(chance.randrange(13)):
                office, goal = chance.sample(range(chance.randrange(3, 5)), 2)
                begin = chance.randrange(9)
                orders.append((office, chance.randrange(2), goal, begin, begin + chance.randrange(1, 30)))
            town = town_away(*orders, days=even_days(4, chance.randrange(1, 4)))
            letter = (chance.randrange(2), chance.randrange(4), chance.randrange(16), 0)
            stops, word, _ = way(town, letter)
            told = why(town, letter)
            words.append(word)
            if word == "reached":
                self.assertIsNone(told)
            elif word == "unknown":
                self.assertEqual(told, self.why_unknown(town, letter[0], stops[-1]))
            else:
                self.assertEqual(told[0], "ring")
                offices = [office for _, office in stops]
                ring = [orders[number][0] for number in told[1]]
                self.assertEqual(ring, offices[len(offices) - 1 - len(ring):-1])
                self.assertEqual(offices[len(offices) - 1 - len(ring)], offices[-1])
        for word in ("reached", "unknown", "ring"):
            self.assertGreater(words.count(word), 20)


class RefusedTest(unittest.TestCase):
    def test_no_such_person_or_office(self):
        for value in (3, 6, -1, HUGE, -HUGE) + NOT_WHOLE:
            refused(self, BadLetter, why, TOWN, (value, 0, 0, 0))
            refused(self, BadLetter, why, TOWN, (0, value, 0, 0))
            refused(self, BadLetter, why, TOWN, (0, 0, 0, value))
        refused(self, BadLetter, why, (DAYS, (), ()), (0, 0, 0, 0))

    def test_the_sender_is_refused_where_the_letter_reaches_too(self):
        refused(self, BadLetter, why, TOWN, (1, 2, 7, 3))

    def test_no_such_day(self):
        self.assertIsNone(why(TOWN, (0, 0, 1000, 0)))
        for day in (-1, 1001, HUGE, -HUGE) + NOT_WHOLE:
            refused(self, BadLetter, why, TOWN, (0, 0, day, 0))


class ToldTest(unittest.TestCase):
    TOWN = town_away((0, 0, 1, 0, 50), (1, 0, 0, 0, 50))

    def test_what_is_handed_in_stays_as_it_was(self):
        self.assertEqual(unchanged(self, why, self.TOWN, (0, 0, 4, 2)), ("ring", [0, 1]))
        self.assertEqual(unchanged(self, why, (DAYS, HOMES, ()), (0, 2, 4, 2)), ("none",))

    def test_what_is_told_may_be_changed(self):
        first = why(self.TOWN, (0, 0, 4, 2))
        first[1].clear()
        self.assertEqual(why(self.TOWN, (0, 0, 4, 2)), ("ring", [0, 1]))

    def test_a_refusal_changes_nothing(self):
        refused(self, BadLetter, why, self.TOWN, (0, 0, 1001, 2))
        self.assertEqual(why(self.TOWN, (0, 0, 4, 2)), ("ring", [0, 1]))

    def test_the_kinds_of_what_is_told(self):
        told = why(self.TOWN, (0, 0, 4, 2))
        self.assertEqual([told.__class__, told[1].__class__], [tuple, list])
        self.assertIs(why(self.TOWN, (0, 2, 4, 2)).__class__, tuple)


if __name__ == "__main__":
    unittest.main()
