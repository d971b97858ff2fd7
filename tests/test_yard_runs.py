"""Points 9 to 15 over long runs: a Yard beside the plain one, all told behind each step."""

import copy
import random
import unittest

from bridgeyard import errors
from bridgeyard.trees import reach, tree
from bridgeyard.yards import Yard
from model import PlainYard, Refused
from plain import members, some_plan
from wrong import NO_NUMBERS

HOSTS = (0, 1, 2, 5, 11, 18, 19)


def busy_plan(chance):
    """A plan in which lans go far: more roads that carry, and more members."""
    ranks, roads = some_plan(chance)
    lans = ((0, 1, 2, 3), (0, 1), (1,), (0, 3), (0, 1, 2, 3))
    return ranks, tuple((one, other, cost, many, chance.choice(lans)) for one, other, cost, many, _ in roads)


class Run:
    """A Yard and a plain one, to which the same is done."""

    def __init__(self, case, chance, plan, **more):
        self.case, self.chance, self.plan = case, chance, plan
        self.yard = Yard(plan, **more)
        self.plain = PlainYard(plan, **more)
        self.spells = {}  # of each host: how often it was plugged
        self.talks = {}  # of each number: its talk and its source's spell
        self.turns = {}  # (host, its spell, a talk, its source's spell): numbers heard so

    def do(self, word, *handed, **more):
        """Do it to both; both tell the same, or both refuse it as the same."""
        try:
            wanted = getattr(self.plain, word)(*handed, **more)
        except Refused as refused:
            error = getattr(errors, str(refused))
            with self.case.assertRaises(error) as caught:
                getattr(self.yard, word)(*handed, **more)
            self.case.assertIs(type(caught.exception), error)
        else:
            told = getattr(self.yard, word)(*handed, **more)
            self.case.assertEqual((word, told, type(told)), (word, wanted, type(wanted)))
            self.note(word, handed, more, told)
        self.compare()

    def note(self, word, handed, more, told):
        if word == "plug":
            self.spells[handed[0]] = self.spells.get(handed[0], 0) + 1
        if word == "send":
            host = handed[0]
            talk = (host, more.get("to"), self.plain.places[host][1])
            self.talks.update({number: (talk, self.spells[host]) for number in told})

    def compare(self):
        case, yard, plain = self.case, self.yard, self.plain
        plain.settle(case, yard.lying())
        case.assertEqual(yard.hosts(), plain.hosts())
        case.assertEqual(yard.counts(), plain.counts())
        case.assertEqual(yard.down(), plain.down())
        case.assertEqual(yard.tree(), plain.tree())
        for bridge in range(len(self.plan[0])):
            case.assertEqual(yard.rows(bridge), plain.rows(bridge))
        for host in range(20):
            case.assertEqual(yard.heard(host), plain.heard(host))
        self.check_heard()

    def check_heard(self):
        """Point 15: none twice, of another lan, for another, its own, or out of turn."""
        for host in HOSTS:
            heard = self.yard.heard(host)
            self.case.assertEqual(len(heard), len(set(heard)))
            known = sum(len(numbers) for key, numbers in self.turns.items() if key[0] == host)
            for number in heard[known:]:
                (source, goal, lan), spell = self.talks[number]
                self.case.assertNotEqual(source, host)
                self.case.assertIn(goal, (None, host))
                self.case.assertEqual(self.plain.places[host][1], lan)
                key = (host, self.spells[host], (source, goal, lan), spell)
                self.turns.setdefault(key, []).append(number)
                self.case.assertEqual(self.turns[key], sorted(self.turns[key]))

    def step(self):
        chance = self.chance
        pick = chance.random()
        host = chance.choice(HOSTS)
        if pick < 0.12 or not self.plain.places:
            self.do("plug", host, chance.randrange(len(self.plan[0])), chance.choice((0, 0, 1, 3)))
        elif pick < 0.17:
            self.do("unplug", host)
        elif pick < 0.45:
            host = chance.choice(sorted(self.plain.places))
            to = chance.choice((None,) + HOSTS)
            self.do("send", host, to=to, times=chance.choice((1, 1, 1, 2, 3, 9)))
        elif pick < 0.85:
            self.carry_some()
        elif pick < 0.9:
            self.do("tick")
        else:
            self.change_member(pick < 0.93)

    def carry_some(self):
        lying = self.yard.lying()
        if lying and self.chance.random() < 0.9:
            road, member, back, _ = self.chance.choice(lying)
            self.do("carry", road, member, back=back)
        elif members(self.plan):
            road, member = self.chance.choice(members(self.plan))
            self.do("carry", road, member, back=self.chance.random() < 0.5)

    def change_member(self, cut):
        if members(self.plan):
            pairs = self.plain.down() if self.plain.out and not cut else members(self.plan)
            self.do("cut" if cut else "mend", *self.chance.choice(pairs))

    def wrong(self):
        """Something with one thing or more wrong."""
        chance = self.chance
        bad = NO_NUMBERS + (-1, 20, 99)
        host = chance.choice(HOSTS + bad)
        bridge = chance.choice((0, 0, 0) + bad)
        road = chance.choice((0, 1, 2) + bad)
        self.do("plug", host, bridge, chance.choice((0, 0) + bad))
        self.do("unplug", chance.choice(bad))
        to = chance.choice(HOSTS + NO_NUMBERS[1:] + (-1, 20))
        self.do("send", host, to=to, times=chance.choice((1, 0, 10) + bad))
        self.do("cut", road, chance.choice(bad))
        self.do("mend", road, chance.choice((0, 1) + bad))
        self.do("carry", road, chance.choice(bad))

    def finish(self):
        """Carry one by one, in any turn of members, till none lies."""
        while self.plain.lies():
            road, member, back, _ = self.chance.choice(self.yard.lying())
            self.do("carry", road, member, back=back)

    def check_rest(self):
        """rest carries all: as many as it tells, and to what point 15 tells."""
        yard = copy.deepcopy(self.yard)
        before = sum(row[3] for row in yard.lying())
        many = yard.rest()
        self.case.assertIs(type(many), int)
        self.case.assertGreaterEqual(many, before)
        self.case.assertEqual(yard.lying(), [])
        self.case.assertEqual((yard.rest(), yard.counts()), (0, self.yard.counts()))
        self.check_rows(yard)

    def check_rows(self, yard):
        """Point 15, of rows: by hosts' ports, and by roads of plugged hosts of that lan."""
        places = {host: (bridge, lan) for host, bridge, lan in yard.hosts()}
        down = tuple(yard.down())
        for bridge in range(len(self.plan[0])):
            for lan, host, (kind, which) in yard.rows(bridge):
                if kind == "host":
                    self.case.assertEqual((host, places[host]), (which, (bridge, lan)))
                elif host in places and places[host][1] == lan:
                    home = places[host][0]
                    if self.joined(home, bridge, lan, down):
                        self.case.assertEqual(which, self.first_road(bridge, home, down))

    def joined(self, one, other, lan, down):
        return reach(self.plan, [(0, one, lan), (1, other, lan)], 0, down=down) == [1]

    def first_road(self, here, there, down):
        """The tree's road by which one goes from here to there."""
        ways = tree(self.plan, down=down)[2]
        roads = {way: self.plan[1][way][:2] for way in ways if way is not None}
        begun = [(here, None, None)]
        for place, first, last in begun:
            if place == there:
                return first
            for road, ends in roads.items():
                if place in ends and road != last:
                    begun.append((sum(ends) - place, road if first is None else first, road))
        raise AssertionError("no way")

    def check_reach(self):
        """Point 15, of frames: once none lies, one more is heard by just those that reach tells."""
        self.finish()
        self.check_rows(self.yard)
        if not self.yard.hosts():
            return
        self.do("tick")
        for _ in range(2):
            source = self.chance.choice(self.yard.hosts())[0]
            for to in (None, self.chance.choice([host for host in HOSTS if host != source])):
                self.one_more(source, to)

    def one_more(self, source, to):
        counts = self.yard.counts()
        self.do("send", source, to=to)
        self.finish()
        if self.yard.counts()[1] == counts[1]:
            heard = [host for host in range(20) if counts[0] in self.yard.heard(host)]
            told = reach(self.plan, self.yard.hosts(), source, to=to, down=tuple(self.yard.down()))
            self.case.assertEqual((source, to, heard), (source, to, told))


class RunTest(unittest.TestCase):
    def run_of(self, seed, steps, **more):
        chance = random.Random(seed)
        run = Run(self, chance, busy_plan(chance), **more)
        for step in range(steps):
            run.step()
            if chance.random() < 0.03:
                run.wrong()
            if step % 12 == 11:
                run.check_rest()
                run.check_reach()
        run.check_reach()
        return run

    def test_as_the_document_tells(self):
        for seed in range(60):
            with self.subTest(seed=seed):
                self.run_of(seed, 60)

    def test_with_little_kept(self):
        for seed in range(30):
            with self.subTest(seed=seed):
                self.run_of(seed, 50, keep=1, most=1, guard=9)
                self.run_of(seed, 50, keep=2, most=2, guard=1)

    def test_with_much_kept(self):
        for seed in range(20):
            with self.subTest(seed=seed):
                self.run_of(seed, 60, keep=30, most=20, guard=9)
                self.run_of(seed, 40, keep=30, most=3, guard=0)

    def test_the_plan_stays_as_it_was(self):
        for seed in range(5):
            run = self.run_of(seed, 40)
            self.assertEqual(run.plan, busy_plan(random.Random(seed)))

    def test_it_goes_the_same_each_time(self):
        first, second = [self.run_of(3, 60).yard for _ in range(2)]
        self.assertEqual(first.lying(), second.lying())
        self.assertEqual(first.counts(), second.counts())


if __name__ == "__main__":
    unittest.main()
