"""Points 16 and 17: rows of deeds."""

import copy
import random
import unittest

from bridgeyard.errors import BadDeed
from bridgeyard.yards import Yard
from lines import LINE, told
from plain import members
from wrong import NO_NUMBERS

DEEDS = [
    ("plug", 1, 0, 0), ("plug", 2, 2, 0), ("rest",), ("send", 1, None), ("send", 1, 2), ("carry", 0, 0, False),
    ("carry", 0, 0, True), ("tick",), ("cut", 1, 0), ("mend", 1, 0), ("unplug", 2), ("rest",),
]
TOLD = [None, None, 4, [0], [1], True, False, None, None, None, None, 0]

# In no yard any of these is a deed.
NO_DEEDS = NO_NUMBERS + (
    0, "tick", "rest", ["tick"], ["rest"], [("tick",)], (("tick",),), (None,), (True,), (0,), ([],), ({"tick": 1},),
    ("",), ("Tick",), ("tick ",), ("tick", None), ("tick", 1), ("rest", 1), ("rest", None), ("begin",), ("end",),
    ("plug",), ("plug", 3, 0), ("plug", 3, 0, 0, 0), ("plug", (3, 0, 0)), ["plug", 3, 0, 0],
    ("unplug",), ("unplug", 1, 0), ("unplug", [1]),
    ("send",), ("send", 1), ("send", 1, 2, 1), ("send", 1, None, 1), ["send", 1, None],
    ("cut",), ("cut", 0), ("cut", 0, 0, 0), ("cut", (0, 0)), ("mend",), ("mend", 1), ("mend", 1, 0, 0),
    ("carry",), ("carry", 0), ("carry", 0, 0), ("carry", 0, 0, True, 0), ("carry", 0, 0, 0), ("carry", 0, 0, 1),
    ("carry", 0, 0, None), ("carry", 0, 0, "True"), ("carry", 0, 0, []),
    ("heard", 1), ("rows", 0), ("hosts",), ("lying",), ("down",), ("tree",), ("counts",), ("log",), ("is_open",),
    ("together", []), ("_come", 0, 0, 0), ("learn", 0, 0, 0), (1, "plug", 0, 0), ("tick", "rest"),
)

# Each of these is a deed, and refused where hosts 1 and 2 are plugged and member (1, 0) is down.
REFUSED = (
    ("plug", 1, 0, 0), ("plug", 20, 0, 0), ("plug", 3, 3, 0), ("plug", 3, 0, 4), ("plug", None, 0, 0),
    ("plug", True, 0, 0), ("plug", [3], 0, 0), ("unplug", 3), ("unplug", 20), ("unplug", "1"), ("unplug", None),
    ("send", 3, None), ("send", 20, None), ("send", 1, 1), ("send", 1, 20), ("send", 1, True), ("send", None, 1),
    ("cut", 1, 0), ("cut", 2, 0), ("cut", 0, 1), ("cut", None, 0), ("cut", False, 0), ("mend", 0, 0), ("mend", 2, 0),
    ("mend", 1, 1), ("carry", 2, 0, False), ("carry", 0, 1, True), ("carry", None, 0, True), ("carry", 0, True, True),
)


def some_yard():
    yard = Yard(LINE)
    yard.plug(1, 0, 0)
    yard.plug(2, 1, 0)
    yard.rest()
    yard.cut(1, 0)
    yard.send(1)
    return yard


class TogetherTest(unittest.TestCase):
    def test_it_tells_what_each_tells(self):
        told_by = Yard(LINE).together(DEEDS)
        self.assertEqual(told_by, TOLD)
        self.assertEqual([type(one) for one in told_by], [type(one) for one in TOLD])
        self.assertIs(type(told_by), list)

    def test_none(self):
        yard = Yard(LINE)
        self.assertEqual(yard.together([]), [])
        self.assertEqual(yard.log(), ["begin", "end"])

    def test_in_turn_as_if_one_by_one(self):
        chance = random.Random(41)
        for _ in range(40):
            yard, other = some_yard(), some_yard()
            deeds = [self.some_deed(chance) for _ in range(chance.randint(1, 12))]
            wanted = []
            try:
                for deed in deeds:
                    wanted.append(self.one(other, deed))
            except ValueError:
                with self.assertRaises(BadDeed) as caught:
                    yard.together(deeds)
                self.assertEqual(caught.exception.number, len(wanted))
            else:
                self.assertEqual(yard.together(deeds), wanted)
            words = [deed[0] for deed in deeds][:len(wanted)]
            self.assertEqual(yard.log(), ["begin"] + words + ["end"])
            self.assertEqual(self.but_the_log(yard), self.but_the_log(other))

    def but_the_log(self, yard):
        words, heard, rows = told(yard)
        return words[:5], heard, rows

    def some_deed(self, chance):
        host, other = chance.sample((1, 2, 3), 2)
        return chance.choice((
            ("plug", host, chance.randrange(3), 0), ("plug", 3, 2, 0), ("send", 1, other if other != 1 else None),
            ("send", 2, None), ("unplug", host), ("tick",), ("rest",), ("rest",), ("cut", 0, 0), ("mend", 1, 0),
            ("carry", 0, 0, chance.random() < 0.5), ("carry", 1, 0, False),
        ))

    def one(self, yard, deed):
        word, *handed = deed
        if word == "send":
            return yard.send(handed[0], to=handed[1])
        if word == "carry":
            return yard.carry(handed[0], handed[1], back=handed[2])
        return getattr(yard, word)(*handed)

    def test_deeds_stay_as_they_were_and_are_not_kept(self):
        deeds = copy.copy(DEEDS)
        yard = Yard(LINE)
        yard.together(deeds)
        self.assertEqual(deeds, DEEDS)
        log = yard.log()
        deeds.clear()
        self.assertEqual(yard.log(), log)

    def test_what_is_told_may_be_changed(self):
        yard = some_yard()
        for one in yard.together([("send", 1, None), ("send", 2, None)]):
            one.append(99)
        yard.log().clear()
        self.assertEqual(yard.send(1), [3])
        self.assertEqual(yard.log(), ["begin", "send", "send", "end"])


class BadDeedTest(unittest.TestCase):
    def refused(self, deed):
        for ahead in ([], [("tick",)], [("send", 1, None), ("rest",), ("plug", 19, 1, 0)]):
            for behind in ([], [("tick",)], [None], [("plug", 5, 0, 0)]):
                yard, other = some_yard(), some_yard()
                other.together(ahead)
                with self.subTest(deed=deed, ahead=ahead, behind=behind):
                    with self.assertRaises(BadDeed) as caught:
                        yard.together(ahead + [deed] + behind)
                    self.assertIs(type(caught.exception), BadDeed)
                    self.assertEqual(caught.exception.number, len(ahead))
                    # Those ahead are done, this one and those behind are not; and the log is the same.
                    self.assertEqual(told(yard), told(other))

    def test_what_is_no_deed(self):
        for deed in NO_DEEDS:
            self.refused(deed)

    def test_a_deed_that_is_refused(self):
        for deed in REFUSED:
            self.refused(deed)

    def test_each_deed_at_its_bounds_is_done(self):
        for deed in (
            ("plug", 0, 0, 0), ("plug", 19, 2, 3), ("unplug", 2), ("send", 1, 0), ("send", 2, 19), ("send", 1, None),
            ("cut", 0, 0), ("mend", 1, 0), ("carry", 1, 0, True), ("carry", 0, 0, False),
        ):
            yard = some_yard()
            self.assertEqual(len(yard.together([deed])), 1)
            self.assertEqual(yard.log(), ["begin", deed[0], "end"])


class LogTest(unittest.TestCase):
    def test_words_of_those_that_were_done(self):
        yard = Yard(LINE)
        yard.together(DEEDS)
        self.assertEqual(yard.log(), ["begin"] + [deed[0] for deed in DEEDS] + ["end"])

    def test_whatever_was_refused_amid_them(self):
        yard = Yard(LINE)
        self.assertRaises(BadDeed, yard.together, [("tick",), ("plug", 1, 0, 0), ("unplug", 2), ("tick",)])
        self.assertEqual(yard.log(), ["begin", "tick", "plug", "end"])
        self.assertRaises(BadDeed, yard.together, [None])
        self.assertEqual(yard.log(), ["begin", "tick", "plug", "end", "begin", "end"])
        yard.together([("rest",)])
        self.assertEqual(yard.log()[-3:], ["begin", "rest", "end"])

    def test_of_together_alone(self):
        yard = some_yard()
        yard.tick()
        self.assertEqual(yard.log(), [])

    def test_open_whenever_it_is_not_under_way(self):
        yard = Yard(LINE)
        self.assertIs(yard.is_open(), True)
        yard.together([("tick",)])
        self.assertIs(yard.is_open(), True)
        self.assertRaises(BadDeed, yard.together, [("tick",), ("unplug", 1)])
        self.assertIs(yard.is_open(), True)
        self.assertEqual(yard.together([("tick",)]), [None])

    def test_not_open_under_way(self):
        seen = []

        class Watched(Yard):
            def tick(self):
                seen.append((self.is_open(), self.log()))
                return Yard.tick(self)

        Watched(LINE).together([("rest",), ("tick",)])
        self.assertEqual(seen, [(False, ["begin", "rest"])])


class LongRunTest(unittest.TestCase):
    def test_many_in_one_row(self):
        yard = Yard(LINE, guard=9)
        pairs = members(LINE)
        deeds = [("plug", 1, 0, 0), ("plug", 2, 2, 0)]
        for turn in range(50):
            road, member = pairs[turn % 2]
            deeds += [("send", 1, 2), ("rest",), ("send", 2, 1), ("cut", road, member), ("mend", road, member)]
            deeds.append(("tick",))
        told_by = yard.together(deeds)
        self.assertEqual(len(told_by), len(deeds))
        self.assertEqual(yard.heard(2), list(range(0, 100, 2)))
        self.assertEqual(yard.log(), ["begin"] + [deed[0] for deed in deeds] + ["end"])


if __name__ == "__main__":
    unittest.main()
