"""Point 18: plans as texts."""

import unittest

from bridgeyard.errors import BadPlan, BadText
from bridgeyard.notes import read, written
from plain import cases
from wrong import RANKS, ROAD, bad_plans

PLAN = ((5, 2, 2), ((0, 1, 3, 1, (0,)), (0, 2, 3, 1, (0, 1)), (1, 2, 1, 2, ())))
TEXT = "bridges 5 2 2\nroad 0 1 3 1 0\nroad 0 2 3 1 0 1\nroad 1 2 1 2"


class WrittenTest(unittest.TestCase):
    def test_rows_of_words(self):
        self.assertEqual(written(PLAN), TEXT)

    def test_one_row(self):
        self.assertEqual(written(((0,), ())), "bridges 0")
        self.assertEqual(written(((9, 0, 9, 0, 9, 0), ())), "bridges 9 0 9 0 9 0")

    def test_a_plan_at_its_bounds(self):
        plan = ((0,) * 6, ((4, 5, 9, 3, (0, 1, 2, 3)),) * 8)
        self.assertEqual(written(plan), "\n".join(["bridges 0 0 0 0 0 0"] + ["road 4 5 9 3 0 1 2 3"] * 8))

    def test_a_plan_that_cannot_be(self):
        for plan, part, number in bad_plans():
            with self.subTest(plan=plan):
                with self.assertRaises(BadPlan) as caught:
                    written(plan)
                self.assertEqual((caught.exception.part, caught.exception.number), (part, number))


class ReadTest(unittest.TestCase):
    def test_what_is_written_is_read_to_the_same(self):
        for _, plan, _ in cases(31, 300):
            text = written(plan)
            with self.subTest(text=text):
                self.assertEqual(read(text), plan)
                self.assertEqual(written(read(text)), text)

    def test_it_is_tuples_and_numbers_through_and_through(self):
        ranks, roads = read(TEXT)
        self.assertEqual((ranks, roads), PLAN)
        self.assertEqual([type(part) for part in (read(TEXT), ranks, roads)], [tuple] * 3)
        for road in roads:
            self.assertEqual([type(part) for part in road], [int] * 4 + [tuple])

    def test_one_row(self):
        self.assertEqual(read("bridges 0"), ((0,), ()))
        self.assertEqual(read("bridges 9 0 9 0 9 0"), ((9, 0, 9, 0, 9, 0), ()))

    def test_four_numbers_behind_road(self):
        self.assertEqual(read("bridges 1 1\nroad 0 1 9 3"), ((1, 1), ((0, 1, 9, 3, ()),)))


class BadTextTest(unittest.TestCase):
    def refused(self, text, row):
        with self.subTest(text=text):
            with self.assertRaises(BadText) as caught:
                read(text)
            self.assertEqual(caught.exception.row, row)
            self.assertIs(type(caught.exception.row), int)

    def test_the_first_row(self):
        for row in (
            "", " ", "bridges", "bridges ", "bridge 0", "Bridges 0", "BRIDGES 0", "road 0 1 1 1", "0", "0 0",
            " bridges 0", "bridges  0", "bridges 0 ", "bridges 0  0", "bridges 0 x", "bridges -1", "bridges +1",
            "bridges 00", "bridges 01", "bridges 100", "bridges 000", "bridges 1_0", "bridges 1.0", "bridges 0,0",
            "bridges0", "bridges 0 bridges 0", "bridges 0 0 0 0 0 0 0 x", "bridges 1e1", "bridges 0x1", "bridges '0'",
        ):
            self.refused(row, 0)
            self.refused(row + "\nroad 0 1 1 1", 0)
            self.refused(row + "\n", 0)

    def test_a_later_row(self):
        for row in (
            "", " ", "road", "road ", "road 0", "road 0 1 1", "road 0 1 1 ", "roads 0 1 1 1", "Road 0 1 1 1",
            "bridges 0", "bridges 0 0 0 0 0", "0 1 1 1", "road 0 1 1 1 ", "road  0 1 1 1", " road 0 1 1 1",
            "road 0 1 1  1", "road 0 1 1 x", "road 0 1 1 1 x", "road 0 1 1 01", "road 00 1 1 1", "road 0 1 1 1 00",
            "road 0 1 100 1", "road 0 1 1 1 -1", "road -0 1 1 1", "road 0 1 1 1 0 road", "road 0 1 1 1 (0)",
        ):
            self.refused("bridges 0 0\n" + row, 1)
            self.refused("bridges 0 0\nroad 0 1 1 1\n" + row, 2)
            self.refused("bridges 0 0\nroad 0 1 1 1\n" + row + "\nroad 0 1 1", 2)

    def test_a_line_end_behind_the_last_row_makes_an_empty_one(self):
        self.refused(TEXT + "\n", 4)
        self.refused("\n" + TEXT, 0)
        self.refused(TEXT.replace("\n", "\n\n"), 1)
        self.refused("bridges 0\n", 1)

    def test_one_word_spoilt(self):
        for number, row in enumerate(TEXT.split("\n")):
            words = row.split(" ")
            for place, word in enumerate(words):
                for bad in ("", word + "x", "0" + word, word.upper() + "!", "100", "-" + word):
                    rows = TEXT.split("\n")
                    rows[number] = " ".join(words[:place] + [bad] + words[place + 1:])
                    self.refused("\n".join(rows), number)

    def test_it_comes_ahead_of_bad_plans(self):
        self.refused("bridges 10\nroad 0 0", 1)
        self.refused("bridges 1 2 3 4 5 6 7\nroad 9 9 9 9\nroad", 2)
        self.refused("bridges 0 0\n" + "road 0 1 1 1\n" * 9, 10)


class BadPlanTest(unittest.TestCase):
    def refused(self, text, part, number):
        with self.subTest(text=text):
            with self.assertRaises(BadPlan) as caught:
                read(text)
            self.assertEqual((caught.exception.part, caught.exception.number), (part, number))

    def test_ranks(self):
        self.refused("bridges 10", 0, 0)
        self.refused("bridges 0 99", 0, 1)
        self.refused("bridges 0 0 0 0 0 0 0", 0, 6)
        self.refused("bridges 0 0 0 0 0 0 0 0\nroad 9 9 9 9", 0, 6)
        self.refused("bridges 0 0 10 0 0 0 0", 0, 2)

    def test_roads(self):
        for row in (
            "road 0 0 1 1", "road 1 0 1 1", "road 0 2 1 1", "road 0 1 0 1", "road 0 1 10 1", "road 0 1 1 0",
            "road 0 1 1 4", "road 0 1 1 1 4", "road 0 1 1 1 1 0", "road 0 1 1 1 0 0", "road 10 11 1 1",
            "road 0 1 1 1 0 1 2 3 3", "road 0 1 1 1 10", "road 0 99 1 1",
        ):
            self.refused("bridges 0 0\n" + row, 1, 0)
            self.refused("bridges 0 0\nroad 0 1 1 1\n" + row + "\nroad 0 0 0 0", 1, 1)
        self.refused("bridges 0\nroad 0 1 1 1", 1, 0)
        self.refused("bridges 0 0\n" + "\n".join(["road 0 1 1 1"] * 9), 1, 8)

    def test_all_that_can_be_written_and_are_no_plans(self):
        for plan, part, number in bad_plans():
            text = self.text_of(plan)
            if text is not None:
                self.refused(text, part, number)

    def text_of(self, plan):
        """The text of a plan that can't be, None where its form can't be written."""
        def numbers(things, least):
            return type(things) is tuple and len(things) >= least and all(
                type(thing) is int and 0 <= thing <= 99 for thing in things
            )

        if part_is_wrong(plan) or not numbers(plan[0], 1) or type(plan[1]) is not tuple:
            return None
        rows = ["bridges " + " ".join(map(str, plan[0]))]
        for road in plan[1]:
            if type(road) is not tuple or len(road) != 5 or not numbers(road[:4], 4) or not numbers(road[4], 0):
                return None
            rows.append("road " + " ".join(map(str, road[:4] + road[4])))
        return "\n".join(rows)

    def test_some_of_these_can_be_written(self):
        texts = [self.text_of(row[0]) for row in bad_plans()]
        self.assertGreater(len([text for text in texts if text is not None]), 50)
        self.assertEqual(self.text_of((RANKS, (ROAD,))), "bridges 0 1 2\nroad 0 1 1 1 0")


def part_is_wrong(plan):
    return type(plan) is not tuple or len(plan) != 2


if __name__ == "__main__":
    unittest.main()
