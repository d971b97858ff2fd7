"""Point 8: Tables."""

import random
import unittest

from bridgeyard.errors import BadCount
from bridgeyard.tables import KEEP, MOST_ROWS, Table
from wrong import NO_NUMBERS

ONE = ("host", 1)
ROAD = ("road", 7)


class PlainTable:
    """Rows (when, lan, host, port), in the document's own words."""

    def __init__(self, keep, most):
        self.keep, self.most, self.known = keep, most, []

    def learn(self, now, lan, host, port):
        rows = [row for row in self.known if now - row[0] < self.keep and row[1:3] != (lan, host)]
        if len(rows) >= self.most:
            rows.remove(min(rows, key=lambda row: row[:3]))
        self.known = rows + [(now, lan, host, port)]

    def forget(self, kind):
        self.known = [row for row in self.known if row[3][0] != kind]

    def strike(self, lan, host):
        self.known = [row for row in self.known if row[1:3] != (lan, host)]

    def rows(self, now):
        return sorted(row[1:] for row in self.known if now - row[0] < self.keep)


class LearnTest(unittest.TestCase):
    def test_nothing_at_first(self):
        table = Table()
        self.assertEqual(table.rows(0), [])
        self.assertIsNone(table.find(0, 0, 0))

    def test_a_row_is_known_from_then_on(self):
        table = Table()
        self.assertIsNone(table.learn(3, 0, 19, ROAD))
        self.assertEqual(table.find(3, 0, 19), ROAD)
        self.assertEqual(table.rows(3), [(0, 19, ROAD)])
        self.assertIsNone(table.find(3, 1, 19))
        self.assertIsNone(table.find(3, 0, 18))

    def test_in_the_place_of_an_elder_one(self):
        table = Table()
        table.learn(0, 2, 5, ROAD)
        table.learn(0, 2, 5, ONE)
        self.assertEqual(table.rows(0), [(2, 5, ONE)])
        self.assertEqual(table.find(0, 2, 5), ONE)

    def test_of_another_lan_or_host_beside_it(self):
        table = Table()
        table.learn(0, 2, 5, ROAD)
        table.learn(0, 3, 5, ONE)
        table.learn(0, 2, 4, ("road", 1))
        self.assertEqual(table.rows(0), [(2, 4, ("road", 1)), (2, 5, ROAD), (3, 5, ONE)])

    def test_ports_of_other_words(self):
        table = Table()
        table.learn(0, 0, 0, ("a",))
        table.learn(0, 0, 1, ("", 2, "b", None))
        self.assertEqual(table.rows(0), [(0, 0, ("a",)), (0, 1, ("", 2, "b", None))])
        table.forget("")
        self.assertEqual(table.rows(0), [(0, 0, ("a",))])


class KeepTest(unittest.TestCase):
    def test_as_long_as_keep_tells(self):
        for keep in (1, 2, 8, 29, 30):
            table = Table(keep=keep)
            table.learn(5, 1, 1, ONE)
            with self.subTest(keep=keep):
                self.assertEqual(table.find(5 + keep - 1, 1, 1), ONE)
                self.assertEqual(table.rows(5 + keep - 1), [(1, 1, ONE)])
                self.assertIsNone(table.find(5 + keep, 1, 1))
                self.assertEqual(table.rows(5 + keep), [])
                self.assertIsNone(table.find(5 + keep + 99, 1, 1))

    def test_left_out_it_is_eight(self):
        self.assertEqual(KEEP, 8)
        table = Table()
        table.learn(0, 1, 1, ONE)
        self.assertEqual((table.find(7, 1, 1), table.find(8, 1, 1)), (ONE, None))

    def test_learnt_again_it_is_kept_anew(self):
        table = Table(keep=2)
        table.learn(0, 1, 1, ONE)
        table.learn(1, 1, 1, ONE)
        self.assertEqual(table.find(2, 1, 1), ONE)
        self.assertIsNone(table.find(3, 1, 1))

    def test_what_is_forgotten_takes_no_place(self):
        table = Table(keep=2, most=2)
        table.learn(0, 0, 0, ONE)
        table.learn(1, 0, 1, ONE)
        table.learn(2, 0, 2, ONE)
        self.assertEqual(table.rows(2), [(0, 1, ONE), (0, 2, ONE)])

    def test_only_what_is_too_old_is_forgotten(self):
        table = Table(keep=3)
        for now in range(6):
            table.learn(now, 0, now, ONE)
        self.assertEqual([row[1] for row in table.rows(5)], [3, 4, 5])
        self.assertEqual([row[1] for row in table.rows(7)], [5])


class MostTest(unittest.TestCase):
    def test_as_many_as_most_tells(self):
        for most in (1, 2, 19, 20):
            table = Table(most=most)
            for host in range(most):
                table.learn(0, 0, host, ONE)
            with self.subTest(most=most):
                self.assertEqual(len(table.rows(0)), most)
                table.learn(0, 1, 0, ONE)
                self.assertEqual(table.rows(0), [(0, host, ONE) for host in range(1, most)] + [(1, 0, ONE)])

    def test_left_out_it_is_twelve(self):
        self.assertEqual(MOST_ROWS, 12)
        table = Table()
        for host in range(13):
            table.learn(0, 0, host, ONE)
        self.assertEqual([row[1] for row in table.rows(0)], list(range(1, 13)))

    def test_the_one_learnt_longest_ago_goes(self):
        table = Table(most=3)
        for now, lan, host in ((0, 3, 9), (1, 0, 0), (2, 0, 1), (3, 2, 2)):
            table.learn(now, lan, host, ONE)
        self.assertEqual(table.rows(3), [(0, 0, ONE), (0, 1, ONE), (2, 2, ONE)])

    def test_learnt_again_it_is_no_longer_the_eldest(self):
        table = Table(most=2)
        table.learn(0, 0, 0, ONE)
        table.learn(1, 0, 1, ONE)
        table.learn(2, 0, 0, ROAD)
        self.assertEqual(table.rows(2), [(0, 0, ROAD), (0, 1, ONE)])
        table.learn(3, 0, 2, ONE)
        self.assertEqual(table.rows(3), [(0, 0, ROAD), (0, 2, ONE)])

    def test_of_several_the_least(self):
        for turn in (((1, 0), (0, 9), (0, 8)), ((0, 8), (1, 0), (0, 9)), ((0, 9), (0, 8), (1, 0))):
            table = Table(most=3)
            for lan, host in turn:
                table.learn(4, lan, host, ONE)
            table.learn(5, 3, 3, ONE)
            with self.subTest(turn=turn):
                self.assertEqual(table.rows(5), [(0, 9, ONE), (1, 0, ONE), (3, 3, ONE)])

    def test_not_the_one_just_learnt(self):
        table = Table(most=2)
        table.learn(0, 3, 3, ONE)
        table.learn(0, 2, 2, ONE)
        table.learn(0, 0, 0, ONE)
        self.assertEqual(table.rows(0), [(0, 0, ONE), (3, 3, ONE)])
        lone = Table(most=1)
        lone.learn(0, 3, 3, ONE)
        lone.learn(0, 0, 0, ONE)
        self.assertEqual(lone.rows(0), [(0, 0, ONE)])


class ForgetTest(unittest.TestCase):
    def test_by_a_first_part(self):
        table = Table()
        for host in range(4):
            table.learn(0, 0, host, (("road", "host")[host % 2], host))
        self.assertIsNone(table.forget("road"))
        self.assertEqual(table.rows(0), [(0, 1, ("host", 1)), (0, 3, ("host", 3))])
        self.assertIsNone(table.find(0, 0, 2))
        table.forget("none")
        self.assertEqual(len(table.rows(0)), 2)

    def test_strike_takes_one_row(self):
        table = Table()
        for lan, host in ((0, 1), (1, 1), (0, 2)):
            table.learn(0, lan, host, ONE)
        self.assertIsNone(table.strike(0, 1))
        self.assertEqual(table.rows(0), [(0, 2, ONE), (1, 1, ONE)])
        self.assertIsNone(table.strike(0, 1))
        self.assertIsNone(table.strike(3, 3))
        self.assertEqual(len(table.rows(0)), 2)

    def test_what_was_struck_takes_no_place(self):
        table = Table(most=2)
        table.learn(0, 0, 0, ONE)
        table.learn(0, 0, 1, ONE)
        table.strike(0, 1)
        table.learn(0, 0, 2, ONE)
        self.assertEqual(table.rows(0), [(0, 0, ONE), (0, 2, ONE)])
        table.learn(0, 0, 1, ROAD)
        table.forget("host")
        table.learn(0, 0, 3, ONE)
        self.assertEqual(table.rows(0), [(0, 1, ROAD), (0, 3, ONE)])


class RunTest(unittest.TestCase):
    def test_as_the_document_tells(self):
        chance = random.Random(21)
        for _ in range(150):
            keep, most = chance.randint(1, 6), chance.choice((1, 2, 3, 5, 20))
            table, plain, now = Table(keep=keep, most=most), PlainTable(keep, most), 0
            for _ in range(60):
                now += chance.choice((0, 0, 0, 1, 1, 2))
                self.step(chance, table, plain, now)
                self.assertEqual(table.rows(now), plain.rows(now))
                found = {(lan, host): table.find(now, lan, host) for lan in range(4) for host in range(6)}
                known = {row[:2]: row[2] for row in plain.rows(now)}
                self.assertEqual({place: port for place, port in found.items() if port is not None}, known)

    def step(self, chance, table, plain, now):
        pick = chance.random()
        if pick < 0.85:
            word, handed = "learn", (now, chance.randrange(4), chance.randrange(6))
            handed += (chance.choice((("host", 1), ("road", 0), ("road", 7))),)
        elif pick < 0.95:
            word, handed = "strike", (chance.randrange(4), chance.randrange(6))
        else:
            word, handed = "forget", (chance.choice(("road", "host")),)
        getattr(table, word)(*handed)
        getattr(plain, word)(*handed)


class ToldTest(unittest.TestCase):
    def test_what_is_told_may_be_changed_and_is_told_again(self):
        table = Table()
        table.learn(0, 0, 0, ONE)
        told = table.rows(0)
        self.assertIs(type(told), list)
        told.clear()
        self.assertEqual(table.rows(0), [(0, 0, ONE)])
        self.assertEqual(table.rows(0), table.rows(0))

    def test_asking_changes_nothing(self):
        table = Table(keep=2, most=2)
        table.learn(0, 0, 0, ONE)
        table.learn(1, 0, 1, ONE)
        for _ in range(3):
            table.find(1, 0, 0)
            table.rows(1)
        table.learn(1, 0, 2, ONE)
        self.assertEqual(table.rows(1), [(0, 1, ONE), (0, 2, ONE)])

    def test_tables_are_apart(self):
        one, other = Table(), Table()
        one.learn(0, 0, 0, ONE)
        self.assertEqual(other.rows(0), [])


class RefusedTest(unittest.TestCase):
    def test_keep(self):
        for keep in NO_NUMBERS + (0, 31, -1, 99):
            with self.subTest(keep=keep):
                self.assertRaises(BadCount, Table, keep=keep)
                self.assertRaises(BadCount, Table, most=12, keep=keep)

    def test_most(self):
        for most in NO_NUMBERS + (0, 21, -1, 99):
            with self.subTest(most=most):
                self.assertRaises(BadCount, Table, most=most)
                self.assertRaises(BadCount, Table, most=most, keep=8)

    def test_at_their_bounds(self):
        for keep in (1, 30):
            for most in (1, 20):
                self.assertEqual(Table(most=most, keep=keep).rows(0), [])

    def test_handed_in_by_name(self):
        self.assertRaises(TypeError, Table, 8)


if __name__ == "__main__":
    unittest.main()
