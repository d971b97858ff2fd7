"""Point 1, over the whole program."""

import ast
import copy
import itertools
import pathlib
import random
import unittest

from bridgeyard.errors import YardError
from bridgeyard.notes import read, written
from bridgeyard.speakers import Speaker
from bridgeyard.tables import Table
from bridgeyard.trees import reach, tree
from bridgeyard.yards import Yard
from lines import LINE, line_yard, told
from plain import cases, ends, members

PACKAGE = pathlib.Path(__file__).resolve().parent.parent / "bridgeyard"


def busy_yard():
    """A Yard with something of everything to tell."""
    yard = Yard(LINE, keep=3, guard=2)
    for host in (1, 2, 3, 4):
        yard.plug(host, host % 3, 0)
    yard.rest()
    yard.together([("send", 1, None), ("rest",), ("tick",)])
    yard.cut(1, 0)
    yard.mend(1, 0)
    yard.send(1, times=3)
    yard.send(2, to=3)
    yard.cut(1, 0)
    yard.send(4)
    return yard


def spoil(thing):
    """Change whatever can be changed of what was told."""
    if isinstance(thing, list):
        for inner in thing:
            spoil(inner)
        thing.reverse()
        thing.append("spoilt")
    elif isinstance(thing, tuple):
        for inner in thing:
            spoil(inner)


class ApartTest(unittest.TestCase):
    def test_lans_are_kept_apart(self):
        hosts = [(5 * lan + bridge, bridge, lan) for lan in (0, 1, 3) for bridge in range(3)]
        yard = line_yard(*hosts, guard=9, most=20)
        for host, _, lan in hosts:
            number = yard.send(host)[0]
            yard.rest()
            heard = [other for other in range(20) if number in yard.heard(other)]
            self.assertEqual(heard, reach(LINE, hosts, host))
            self.assertTrue(all(row[2] == lan for row in hosts if row[0] in heard))

    def test_one_host_in_one_lan_behind_another(self):
        yard = line_yard((1, 0, 0), (2, 2, 0))
        yard.unplug(2)
        yard.plug(2, 2, 1)
        yard.rest()
        yard.send(1, to=2)
        yard.rest()
        self.assertEqual(yard.heard(2), [])
        yard.unplug(1)
        yard.plug(1, 1, 1)
        yard.send(1, to=2)
        yard.rest()
        self.assertEqual(yard.heard(2), [1])

    def test_yards_are_apart(self):
        one, other = Yard(LINE), Yard(LINE)
        before = told(other)
        one.plug(1, 0, 0)
        one.send(1)
        one.cut(0, 0)
        one.together([("tick",)])
        self.assertEqual(told(other), before)


class ToldTest(unittest.TestCase):
    def test_what_is_told_may_be_changed(self):
        yard = busy_yard()
        before = copy.deepcopy(told(yard))
        for _ in range(2):
            spoil(told(yard))
            self.assertEqual(told(yard), before)

    def test_what_is_told_by_deeds_may_be_changed(self):
        yard, other = busy_yard(), busy_yard()
        spoil(yard.send(1))
        spoil(yard.together([("send", 1, None), ("send", 2, None)]))
        other.send(1)
        other.together([("send", 1, None), ("send", 2, None)])
        self.assertEqual(told(yard), told(other))

    def test_what_was_told_stays_as_it_was(self):
        yard = busy_yard()
        first = told(yard)
        before = copy.deepcopy(first)
        yard.mend(1, 0)
        yard.plug(9, 1, 1)
        yard.send(9, times=9)
        yard.rest()
        yard.together([("unplug", 1), ("tick",)])
        self.assertEqual(first, before)
        self.assertNotEqual(told(yard), before)

    def test_asked_again_the_same_is_told(self):
        yard, other = busy_yard(), busy_yard()
        self.assertEqual(told(yard), told(yard))
        # Asked in between or not, what is done is the same.
        for word, handed in (("rest", ()), ("tick", ()), ("unplug", (1,)), ("mend", (1, 0)), ("rest", ())):
            told(yard)
            self.assertEqual(getattr(yard, word)(*handed), getattr(other, word)(*handed))
            self.assertEqual(told(yard), told(other))


class HandedInTest(unittest.TestCase):
    def test_names_in_any_turn_or_left_out(self):
        for names in itertools.permutations((("keep", 2), ("most", 3), ("guard", 1))):
            yard, other = Yard(LINE, **dict(names)), Yard(LINE, keep=2, most=3, guard=1)
            for one in (yard, other):
                one.plug(1, 0, 0)
                one.send(1, times=3)
            self.assertEqual(told(yard), told(other))
        yards = [line_yard((1, 0, 0), (2, 1, 0)) for _ in range(4)]
        self.assertEqual(yards[0].send(1, to=2, times=1), yards[1].send(1, times=1, to=2))
        self.assertEqual(yards[2].send(1, to=2), [0])
        self.assertEqual(yards[3].send(1, times=1), [0])
        self.assertEqual(told(yards[0]), told(yards[2]))
        self.assertEqual(Table(most=3, keep=2).rows(0), Table(keep=2, most=3).rows(0))
        hosts = [(1, 0, 0), (2, 2, 0)]
        self.assertEqual(reach(LINE, hosts, 1, down=((1, 0),), to=2), reach(LINE, hosts, 1, to=2, down=((1, 0),)))

    def test_plans_stay_as_they_were(self):
        for _, plan, _ in cases(51, 60):
            before = copy.deepcopy(plan)
            yard = Yard(plan)
            yard.plug(1, 0, 0)
            for member in members(plan):
                yard.cut(*member)
            written(plan)
            tree(plan)
            self.assertEqual(plan, before)

    def test_ports_and_deeds_may_be_changed_later(self):
        deeds = [("plug", 1, 0, 0), ("send", 1, None)]
        yard = Yard(LINE)
        yard.together(deeds)
        before = told(yard)
        deeds[1] = ("unplug", 1)
        deeds.append(None)
        self.assertEqual(told(yard), before)


class RefusedTest(unittest.TestCase):
    def test_it_changes_nothing(self):
        chance = random.Random(52)
        things = (None, True, False, "", "x", (), [], -1, 0, 1, 2, 3, 19, 20, 99)
        for _ in range(60):
            yard = busy_yard()
            before = told(yard)
            for _ in range(40):
                a, b, c = [chance.choice(things) for _ in range(3)]
                refused = self.ask(chance, yard, a, b, c)
                if not refused:
                    yard = busy_yard()
                self.assertEqual(told(yard), before)

    def ask(self, chance, yard, a, b, c):
        asked = (
            lambda: yard.plug(a, b, c), lambda: yard.unplug(a), lambda: yard.cut(a, b), lambda: yard.mend(a, b),
            lambda: yard.send(a, to=b, times=c), lambda: yard.carry(a, b, back=c is True), lambda: yard.heard(a),
            lambda: yard.rows(a), lambda: yard.send(1, to=b, times=c), lambda: yard.send(2, times=c),
        )
        try:
            chance.choice(asked)()
        except YardError:
            return True
        return False


class AloneTest(unittest.TestCase):
    def test_no_module_of_another_package(self):
        for path in PACKAGE.glob("*.py"):
            for node in ast.walk(ast.parse(path.read_text(encoding="utf-8"))):
                self.assertNotIsInstance(node, ast.Import, path.name)
                if isinstance(node, ast.ImportFrom):
                    self.assertTrue(node.module.startswith("bridgeyard."), path.name)

    def test_all_files_go_together(self):
        for _, plan, down in cases(53, 30):
            yard = Yard(read(written(plan)))
            for member in down:
                yard.cut(*member)
            speakers = [Speaker(plan, bridge) for bridge in range(len(plan[0]))]
            for _ in range(16):
                self.round_of(plan, speakers, tuple(yard.down()))
            self.assertEqual(yard.tree(), tree(plan, down=down))
            self.assertEqual(list(zip(*yard.tree())), [speaker.told() for speaker in speakers])

    def round_of(self, plan, speakers, down):
        for bridge, speaker in enumerate(speakers):
            for road, letter in speaker.letters(down=down):
                speakers[sum(ends(plan, road)) - bridge].hear(road, letter)
        for speaker in speakers:
            speaker.turn(down=down)


if __name__ == "__main__":
    unittest.main()
