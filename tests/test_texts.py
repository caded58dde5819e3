"""[12]: a town's orders as a text, and back."""

import unittest

from mailslots.errors import BadText, BadTown
from mailslots.texts import with_orders, written
from mailslots.ways import way
from samples import DAYS, HOMES, ORDERS, TOWN, refused, unchanged

TEXT = "order 0 0 1 10 40\norder 2 2 1 500 530\norder 0 0 2 20 30\norder 0 1 2 5 6"
BARE = (DAYS, HOMES, ())
ROW = "order 0 0 1 10 40"
BAD_ORDERS = (DAYS, HOMES, ((0, 0, 0, 0, 1),))


class WrittenTest(unittest.TestCase):
    def test_a_row_for_each_order(self):
        self.assertEqual(written(TOWN), TEXT)

    def test_one_order(self):
        self.assertEqual(written((DAYS, HOMES, ((2, 1, 0, 1999, 2000),))), "order 2 1 0 1999 2000")

    def test_no_orders(self):
        self.assertEqual(written(BARE), "")

    def test_twenty_orders(self):
        orders = tuple((0, 0, 1, at, at + 1) for at in range(20))
        rows = [f"order 0 0 1 {at} {at + 1}" for at in range(20)]
        self.assertEqual(written((DAYS, HOMES, orders)), "\n".join(rows))

    def test_no_such_town(self):
        error = refused(self, BadTown, written, BAD_ORDERS)
        self.assertEqual((error.word, error.number), ("orders", 0))

    def test_what_is_handed_in_stays_as_it_was(self):
        self.assertIs(unchanged(self, written, TOWN).__class__, str)


class WithOrdersTest(unittest.TestCase):
    def test_the_orders_of_the_text_in_the_place_of_its_own(self):
        self.assertEqual(with_orders(BARE, TEXT), TOWN)
        self.assertEqual(with_orders(TOWN, "order 1 0 2 0 7"), (DAYS, HOMES, ((1, 0, 2, 0, 7),)))

    def test_the_empty_text(self):
        self.assertEqual(with_orders(TOWN, ""), BARE)
        self.assertEqual(with_orders(BARE, ""), BARE)

    def test_what_was_written(self):
        orders = tuple((at % 3, at % 2, (at + 1) % 3, at * 99, at * 100 + 1) for at in range(20))
        for town in (TOWN, BARE, (DAYS, HOMES, orders)):
            self.assertEqual(with_orders(BARE, written(town)), town)

    def test_numbers_of_one_to_four_figures(self):
        told = with_orders(BARE, "order 0 0 1 0 9\norder 0 0 1 10 99\norder 0 0 1 100 999\norder 0 0 1 1000 2000")
        self.assertEqual([row[3:] for row in told[2]], [(0, 9), (10, 99), (100, 999), (1000, 2000)])

    def test_figures_within_and_behind(self):
        told = with_orders(BARE, "order 0 0 1 100 101\norder 0 0 1 909 1090")
        self.assertEqual(told[2], ((0, 0, 1, 100, 101), (0, 0, 1, 909, 1090)))

    def test_the_told_town_can_be_handed_in(self):
        town = with_orders(BARE, TEXT)
        self.assertEqual(way(town, (0, 0, 10, 2)), ([(10, 0), (12, 1)], "reached", None))

    def test_the_kinds_of_what_is_told(self):
        town = with_orders(BARE, TEXT)
        self.assertEqual([part.__class__ for part in (town,) + town], [tuple] * 4)
        self.assertEqual({row.__class__ for row in town[2]}, {tuple})
        self.assertEqual({number.__class__ for row in town[2] for number in row}, {int})

    def test_what_is_handed_in_stays_as_it_was(self):
        self.assertEqual(unchanged(self, with_orders, TOWN, ROW), (DAYS, HOMES, ((0, 0, 1, 10, 40),)))
        self.assertEqual(with_orders(TOWN, TEXT), TOWN)


class BadTextTest(unittest.TestCase):
    def refuse(self, text, row, town=BARE):
        with self.subTest(text=text):
            self.assertEqual(refused(self, BadText, with_orders, town, text).row, row)

    def refuse_row(self, row):
        self.refuse(row, 0)
        self.refuse(f"{row}\n{ROW}", 0)
        self.refuse(f"{ROW}\n{ROW}\n{row}", 2)
        self.refuse(f"{ROW}\n{row}\n{row}", 1)

    def test_rows_left_out(self):
        self.refuse("\n", 0)
        self.refuse("\n\n", 0)
        self.refuse(f"{ROW}\n", 1)
        self.refuse(f"\n{ROW}", 0)
        self.refuse(f"{ROW}\n\n{ROW}", 1)

    def test_blanks_alone(self):
        for row in (" ", "     ", "      "):
            self.refuse_row(row)

    def test_numbers_left_out_and_more_than_five(self):
        for row in ("order", "order 0", "order 0 0 1 10", "order 0 0 1 10 40 0", "order 0 0 1 10 40 order",
                    "0 0 1 10 40", "0 0 0 1 10 40", "order order 0 0 1 10"):
            self.refuse_row(row)

    def test_blanks_left_out_and_more_than_one(self):
        for row in (" order 0 0 1 10 40", "order 0 0 1 10 40 ", "order  0 0 1 10 40", "order 0 0  1 10 40",
                    "order0 0 1 10 40", "order 00 1 10 40", "order 0 0 1 10 ", "order  0 0 1 10", "order 0 0 1 10  40"):
            self.refuse_row(row)

    def test_other_words(self):
        for word in ("Order", "ORDER", "orders", "orde", "rder", "letter", "", "'order'"):
            self.refuse_row(f"{word} 0 0 1 10 40")

    def test_numbers_with_a_needless_figure(self):
        for number in ("00", "01", "010", "0010", "0000", "00000", "00010"):
            for at in range(1, 6):
                parts = ROW.split(" ")
                parts[at] = number
                self.refuse_row(" ".join(parts))

    def test_numbers_of_more_than_four_figures(self):
        for number in ("10000", "99999", "1" * 60, "9" * 2000):
            self.refuse_row(f"order 0 0 1 10 {number}")
            self.refuse_row(f"order {number} 0 1 10 40")

    def test_what_is_no_number(self):
        for number in ("-1", "+1", "1.0", "1e1", "1_0", "0x1", "x", "True", "-", ".", "1,", "1;", "~", "0-", "(1)"):
            for at in range(1, 6):
                parts = ROW.split(" ")
                parts[at] = number
                self.refuse_row(" ".join(parts))

    def test_other_signs_between_rows(self):
        for sign in (";", ",", " ", "\\n", "/"):
            self.refuse(f"{ROW}{sign}{ROW}", 0)

    def test_the_first_row_of_several(self):
        self.refuse("order 0 0 1 10 40\norder 0 0 1 10\nORDER 0 0 1 10 40", 1)
        self.refuse("\n".join([ROW] * 150 + ["spoilt"]), 150)
        self.refuse("\n" * 3000, 0)
        self.refuse("order 0 0 1 10 40 " * 166, 0)

    def test_a_refusal_changes_nothing(self):
        self.refuse("order", 0, TOWN)
        self.refuse("order", 0, TOWN)
        self.assertEqual(written(TOWN), TEXT)


class BadTownTest(unittest.TestCase):
    BAD_DAYS = ((0, 2, 5), (3, 0, 4), (9, 1, 1))
    BAD_HOMES = (((0, 0),), ((1, 2),))

    def refuse(self, town, text, word, number):
        error = refused(self, BadTown, with_orders, town, text)
        self.assertEqual((error.word, error.number), (word, number))

    def test_days_and_homes_are_refused_ahead_of_the_text(self):
        for text in ("", ROW, "spoilt", "order 0 0 0 0 1"):
            self.refuse((self.BAD_DAYS, HOMES, ORDERS), text, "days", 2)
            self.refuse((self.BAD_DAYS, self.BAD_HOMES, ORDERS), text, "days", 2)
            self.refuse((DAYS, self.BAD_HOMES, ORDERS), text, "homes", 1)
            self.refuse((DAYS, self.BAD_HOMES, BAD_ORDERS[2]), text, "homes", 1)
            self.refuse(((), (), ()), text, "days", 0)

    def test_orders_of_the_text_that_can_not_be(self):
        spoilt = ("order 3 0 1 0 1", "order 0 3 1 0 1", "order 0 0 3 0 1", "order 0 0 0 0 1", "order 0 0 1 0 0",
                  "order 0 0 1 7 6", "order 0 0 1 0 2001", "order 0 0 1 2000 2001", "order 9999 0 1 0 1")
        for row in spoilt:
            with self.subTest(row):
                self.refuse(BARE, row, "orders", 0)
                self.refuse(TOWN, f"{ROW}\n{row}\n{row}", "orders", 1)

    def test_a_twenty_first_order(self):
        self.assertEqual(len(with_orders(BARE, "\n".join([ROW] * 20))[2]), 20)
        self.refuse(BARE, "\n".join([ROW] * 21), "orders", 20)
        self.refuse(BARE, "\n".join([ROW] * 160), "orders", 20)

    def test_a_spoilt_row_is_refused_ahead_of_orders_that_can_not_be(self):
        for text, row in (("order 0 0 0 0 1\nspoilt", 1), ("\n".join([ROW] * 30 + [""]), 30)):
            self.assertEqual(refused(self, BadText, with_orders, BARE, text).row, row)

    def test_its_own_orders_do_not_matter(self):
        self.assertEqual(with_orders(BAD_ORDERS, TEXT), TOWN)
        self.assertEqual(with_orders(BAD_ORDERS, ""), BARE)
        self.assertEqual(refused(self, BadText, with_orders, BAD_ORDERS, "spoilt").row, 0)

    def test_a_person_that_there_is_not(self):
        self.refuse((DAYS, (), ()), ROW, "orders", 0)
        self.assertEqual(with_orders((DAYS, (), ()), ""), (DAYS, (), ()))


if __name__ == "__main__":
    unittest.main()
