"""[5], [9]: what comes of many letters, in turn."""

import random
import unittest

from mailslots.errors import BadLetter, BadTime, BadTown
from mailslots.posts import Post
from mailslots.ways import way
from samples import DAYS, HOMES, HUGE, TOWN, even_days, refused, town_of, unchanged

NOT_WHOLE = (True, False, None, "0", 0.0)
# Two offices, a day's way apart; the person lives at office 0.
SMALL = town_of(2)
LAST = 10 ** 6


def post_of(town, *letters):
    """A post to which these letters were brought."""
    post = Post(town)
    for letter in letters:
        post.put(letter)
    return post


class DayTest(unittest.TestCase):
    def test_day_0_at_first(self):
        self.assertEqual(Post(SMALL).time(), 0)

    def test_the_day_that_was_passed_to(self):
        post = Post(SMALL)
        for day in (0, 3, 3, 4, 1000, 1001, LAST, LAST):
            self.assertEqual(post.pass_to(day), [])
            self.assertEqual(post.time(), day)

    def test_to_put_a_letter_lets_no_day_pass(self):
        post = post_of(SMALL, (0, 0, 40, 0))
        self.assertEqual(post.time(), 0)
        self.assertEqual(post.put((0, 0, 0, 0)), 1)

    def test_a_day_less_than_the_posts(self):
        post = post_of(SMALL, (0, 0, 8, 0))
        refused(self, BadTime, post.pass_to, -1)
        post.pass_to(7)
        for day in (6, 0, -1, -HUGE):
            refused(self, BadTime, post.pass_to, day)
        self.assertEqual((post.time(), post.under_way()), (7, [0]))

    def test_a_day_above_a_million(self):
        post = post_of(SMALL, (0, 0, 8, 0))
        for day in (LAST + 1, HUGE):
            refused(self, BadTime, post.pass_to, day)
        self.assertEqual((post.time(), post.under_way()), (0, [0]))
        self.assertEqual(post.pass_to(LAST), [(8, 0, 0, "given")])
        refused(self, BadTime, post.pass_to, LAST + 1)
        refused(self, BadTime, post.pass_to, LAST - 1)
        self.assertEqual(post.time(), LAST)

    def test_a_day_that_is_not_whole(self):
        post = Post(SMALL)
        for day in NOT_WHOLE:
            refused(self, BadTime, post.pass_to, day)
        self.assertIs(post.time().__class__, int)


class PutTest(unittest.TestCase):
    def test_numbers_from_0(self):
        post = Post(TOWN)
        letters = ((1, 2, 0, 0), (0, 2, 5, 1), (0, 0, 3, 1), (0, 0, 3, 1))
        self.assertEqual([post.put(letter) for letter in letters], [0, 1, 2, 3])

    def test_numbers_go_on_when_letters_are_over(self):
        post = post_of(SMALL, (0, 0, 0, 0))
        post.pass_to(2)
        self.assertEqual(post.put((0, 0, 2, 0)), 1)
        self.assertEqual(post.pass_to(2), [(2, 1, 0, "given")])

    def test_no_less_than_the_posts_day(self):
        post = Post(SMALL)
        post.pass_to(5)
        for day in (4, 0):
            refused(self, BadLetter, post.put, (0, 0, day, 0))
        self.assertEqual(post.put((0, 0, 5, 0)), 0)
        self.assertEqual(post.put((0, 0, 6, 0)), 1)

    def test_a_day_that_is_over_though_the_letter_still_came_later(self):
        post = Post(TOWN)
        post.pass_to(11)
        refused(self, BadLetter, post.put, (0, 0, 10, 2))
        refused(self, BadLetter, post.put, (0, 2, 10, 0))
        self.assertEqual(post.put((0, 0, 11, 2)), 0)

    def test_days_above_1000(self):
        post = Post(SMALL)
        refused(self, BadLetter, post.put, (0, 0, 1001, 0))
        post.pass_to(1000)
        refused(self, BadLetter, post.put, (0, 0, 999, 0))
        self.assertEqual(post.put((0, 1, 1000, 0)), 0)
        post.pass_to(1001)
        for day in (1000, 1001, 1002):
            refused(self, BadLetter, post.put, (0, 0, day, 0))

    def test_no_such_letter(self):
        post = Post(TOWN)
        for value in (3, 6, -1, HUGE, -HUGE) + NOT_WHOLE:
            refused(self, BadLetter, post.put, (value, 0, 0, 0))
            refused(self, BadLetter, post.put, (0, value, 0, 0))
            refused(self, BadLetter, post.put, (0, 0, 0, value))
        for day in (-1, 1001, HUGE, -HUGE) + NOT_WHOLE:
            refused(self, BadLetter, post.put, (0, 0, day, 0))

    def test_a_refused_letter_has_no_number(self):
        post = Post(TOWN)
        refused(self, BadLetter, post.put, (3, 0, 0, 0))
        self.assertEqual(post.under_way(), [])
        self.assertEqual(post.put((1, 2, 0, 0)), 0)
        refused(self, BadLetter, post.put, (0, 0, 1001, 0))
        self.assertEqual(post.put((1, 2, 0, 0)), 1)
        self.assertEqual(post.pass_to(LAST), [(0, 0, 2, "given"), (0, 1, 2, "given")])

    def test_a_sixtieth_and_a_sixty_first_letter(self):
        post = post_of(SMALL, *[(0, 0, day, 0) for day in range(59)])
        self.assertEqual(post.put((0, 0, 59, 0)), 59)
        for _ in range(2):
            refused(self, BadLetter, post.put, (0, 0, 60, 0))
        self.assertEqual(post.under_way(), list(range(60)))
        self.assertEqual(post.pass_to(LAST), [(day, day, 0, "given") for day in range(60)])

    def test_a_sixty_first_letter_when_others_are_over(self):
        post = post_of(SMALL, *[(0, 0, 0, 0)] * 60)
        self.assertEqual(len(post.pass_to(3)), 60)
        refused(self, BadLetter, post.put, (0, 0, 3, 0))
        self.assertEqual((post.pass_to(3), post.under_way()), ([], []))

    def test_refused_letters_do_not_count(self):
        post = Post(SMALL)
        for _ in range(61):
            refused(self, BadLetter, post.put, (0, 2, 0, 0))
        self.assertEqual([post.put((0, 0, 0, 0)) for _ in range(60)], list(range(60)))


class PassToTest(unittest.TestCase):
    def test_given_at_once(self):
        post = post_of(TOWN, (1, 2, 0, 0))
        self.assertEqual(post.pass_to(0), [(0, 0, 2, "given")])

    def test_given_where_it_was_sent_on_to(self):
        post = post_of(TOWN, (0, 0, 10, 2))
        self.assertEqual(post.pass_to(11), [])
        self.assertEqual(post.pass_to(12), [(12, 0, 1, "given")])

    def test_back_at_its_sender(self):
        post = post_of(TOWN, (0, 0, 20, 0))
        self.assertEqual(post.pass_to(33), [])
        self.assertEqual(post.pass_to(34), [(34, 0, 0, "back")])

    def test_back_on_the_day_on_which_it_was_brought(self):
        post = post_of(TOWN, (0, 2, 3, 2))
        self.assertEqual(post.pass_to(3), [(3, 0, 2, "back")])

    def test_back_out_of_a_ring(self):
        town = (DAYS, HOMES, ((0, 1, 1, 0, 50), (1, 1, 0, 0, 50)))
        post = post_of(town, (1, 0, 4, 2))
        self.assertEqual(post.pass_to(LAST), [(14, 0, 2, "back")])

    def test_all_that_is_over_by_then_rising(self):
        post = post_of(SMALL, (0, 1, 6, 0), (0, 0, 7, 1), (0, 0, 3, 1), (0, 1, 2, 0), (0, 0, 8, 0), (0, 0, 7, 0))
        over = [(3, 2, 0, "given"), (3, 3, 0, "back"), (7, 0, 0, "back"), (7, 1, 0, "given"), (7, 5, 0, "given")]
        self.assertEqual(post.pass_to(7), over)
        self.assertEqual(post.pass_to(8), [(8, 4, 0, "given")])

    def test_nothing_is_told_twice(self):
        post = post_of(SMALL, (0, 0, 0, 0), (0, 0, 1, 0))
        self.assertEqual(post.pass_to(0), [(0, 0, 0, "given")])
        self.assertEqual(post.pass_to(0), [])
        self.assertEqual(post.pass_to(1), [(1, 1, 0, "given")])
        self.assertEqual(post.pass_to(LAST), [])

    def test_what_is_brought_and_over_on_the_posts_day(self):
        post = Post(SMALL)
        post.pass_to(5)
        post.put((0, 0, 5, 0))
        self.assertEqual(post.pass_to(5), [(5, 0, 0, "given")])

    def test_day_1000_and_beyond_under_way(self):
        orders = ((0, 0, 1, 1000, 1001), (1, 0, 2, 1009, 1010))
        town = (even_days(3, 9), (((0, 2),), ((0, 2),)), orders)
        post = post_of(town, (0, 0, 1000, 0), (1, 0, 1000, 1))
        self.assertEqual(post.pass_to(1008), [])
        self.assertEqual(post.under_way(), [0, 1])
        self.assertEqual(post.pass_to(1017), [(1009, 1, 1, "back")])
        self.assertEqual(post.pass_to(1018), [(1018, 0, 2, "given")])

    def test_agrees_with_the_ways(self):
        chance = random.Random(11)
        for _ in range(40):
            self.agree(chance, Post(TOWN))

    def agree(self, chance, post):
        waiting, number = {}, 0
        while number < 60 and post.time() < 1000:
            for _ in range(chance.randrange(6)):
                if number < 60:
                    day = chance.randrange(post.time(), min(post.time() + 60, 1000) + 1)
                    letter = (chance.randrange(3), chance.randrange(3), day, chance.randrange(3))
                    self.assertEqual(post.put(letter), number)
                    stops, word, back = way(TOWN, letter)
                    end = stops[-1] + ("given",) if word == "reached" else back + ("back",)
                    waiting[number] = (end[0], number) + end[1:]
                    number += 1
            self.assertEqual(post.under_way(), sorted(waiting))
            day = post.time() + chance.randrange(60)
            over = sorted(row for row in waiting.values() if row[0] <= day)
            self.assertEqual(post.pass_to(day), over)
            for row in over:
                del waiting[row[1]]
            self.assertEqual(post.under_way(), sorted(waiting))


class UnderWayTest(unittest.TestCase):
    def test_none_at_first(self):
        self.assertEqual(Post(SMALL).under_way(), [])

    def test_all_but_those_that_were_told(self):
        post = post_of(SMALL, (0, 1, 6, 0), (0, 0, 2, 0), (0, 0, 9, 0), (0, 1, 2, 0))
        self.assertEqual(post.under_way(), [0, 1, 2, 3])
        post.pass_to(2)
        self.assertEqual(post.under_way(), [0, 2, 3])
        post.pass_to(8)
        self.assertEqual(post.under_way(), [2])
        post.pass_to(9)
        self.assertEqual(post.under_way(), [])

    def test_until_it_is_told(self):
        post = post_of(SMALL, (0, 0, 0, 0))
        self.assertEqual(post.under_way(), [0])
        post.pass_to(0)
        self.assertEqual(post.under_way(), [])

    def test_letters_of_later_days(self):
        post = post_of(SMALL, (0, 0, 500, 0))
        post.pass_to(499)
        self.assertEqual(post.under_way(), [0])


class ToldTest(unittest.TestCase):
    def test_what_is_told_may_be_changed(self):
        post = post_of(SMALL, (0, 0, 0, 0), (0, 0, 1, 0), (0, 0, 1, 0))
        post.pass_to(0).append("more")
        numbers = post.under_way()
        numbers.clear()
        self.assertEqual(post.under_way(), [1, 2])
        over = post.pass_to(1)
        over.reverse()
        over.pop()
        post.under_way().append("more")
        self.assertEqual((post.pass_to(1), post.under_way()), ([], []))

    def test_to_ask_changes_nothing(self):
        post = post_of(SMALL, (0, 0, 4, 0))
        for _ in range(3):
            self.assertEqual((post.time(), post.under_way()), (0, [0]))
        self.assertEqual(post.pass_to(4), [(4, 0, 0, "given")])

    def test_posts_are_apart(self):
        first, second = Post(TOWN), Post(TOWN)
        first.put((1, 2, 0, 0))
        first.pass_to(9)
        self.assertEqual((second.time(), second.under_way()), (0, []))
        self.assertEqual(second.put((1, 2, 3, 0)), 0)

    def test_what_is_handed_in_stays_as_it_was(self):
        post = unchanged(self, Post, TOWN)
        unchanged(self, post.put, (0, 0, 20, 0))
        self.assertEqual(post.pass_to(LAST), [(34, 0, 0, "back")])

    def test_the_kinds_of_what_is_told(self):
        post = post_of(SMALL, (0, 0, 0, 0))
        self.assertIs(post.under_way().__class__, list)
        told = post.pass_to(0)
        self.assertEqual([told.__class__, told[0].__class__], [list, tuple])

    def test_no_such_town(self):
        error = refused(self, BadTown, Post, (DAYS, HOMES, ((0, 0, 0, 0, 1),)))
        self.assertEqual((error.word, error.number), ("orders", 0))


if __name__ == "__main__":
    unittest.main()
