"""Point 5: whom a frame reaches."""

import copy
import unittest

from bridgeyard.errors import BadBridge, BadHost, BadLan, BadRoad
from bridgeyard.trees import reach
from plain import cases, plain_reach, some_hosts
from wrong import BAD_DOWNS, DOWN_PLAN, NO_NUMBERS

# A line 0 - 1 - 2 - 3, and a road 0 - 3 too dear for the tree.
LINE = (
    (0, 0, 0, 0),
    ((0, 1, 1, 1, (0, 1, 2, 3)), (1, 2, 1, 2, (1, 2)), (2, 3, 1, 1, (0, 1)), (0, 3, 9, 1, (0, 1, 2, 3))),
)
HOSTS = [
    (19, 0, 0), (0, 0, 0), (5, 1, 0), (6, 2, 0), (7, 3, 0),
    (10, 0, 1), (11, 1, 1), (12, 2, 1), (13, 3, 1),
    (1, 0, 2), (2, 3, 2), (3, 2, 2), (4, 0, 3),
]


class ReachTest(unittest.TestCase):
    def test_by_the_roads_that_carry_the_lan(self):
        told = {19: [0, 5], 5: [0, 19], 6: [7], 7: [6], 10: [11, 12, 13], 13: [10, 11, 12], 1: [3], 2: [], 4: []}
        for source, heard in told.items():
            with self.subTest(source=source):
                self.assertEqual(reach(LINE, HOSTS, source), heard)

    def test_to_one(self):
        self.assertEqual(reach(LINE, HOSTS, 10, to=13), [13])
        self.assertEqual(reach(LINE, HOSTS, 0, to=19), [19])
        self.assertEqual(reach(LINE, HOSTS, 19, to=0), [0])
        self.assertEqual(reach(LINE, HOSTS, 10, to=None), [11, 12, 13])

    def test_to_one_that_cannot_hear_it(self):
        for to in (0, 6, 10, 9, 18, 1):
            with self.subTest(to=to):
                self.assertEqual(reach(LINE, HOSTS, 10, to=to), [])
        self.assertEqual(reach(LINE, HOSTS, 0, to=6), [])
        self.assertEqual(reach(LINE, HOSTS, 0, to=0), [])

    def test_by_another_tree_when_members_are_down(self):
        self.assertEqual(reach(LINE, HOSTS, 1, down=((1, 0),)), [3])
        self.assertEqual(reach(LINE, HOSTS, 1, down=((1, 0), (1, 1))), [2])
        self.assertEqual(reach(LINE, HOSTS, 1, down=((1, 1), (1, 0)), to=2), [2])
        self.assertEqual(reach(LINE, HOSTS, 10, to=13, down=((0, 0), (3, 0))), [])
        self.assertEqual(reach(LINE, HOSTS, 19, down=((0, 0), (1, 0), (1, 1), (2, 0), (3, 0))), [0])

    def test_a_road_beside_the_tree_carries_nothing(self):
        plan = ((0, 0), ((0, 1, 1, 1, ()), (0, 1, 1, 1, (0,))))
        self.assertEqual(reach(plan, [(0, 0, 0), (1, 1, 0)], 0), [])
        self.assertEqual(reach(plan, [(0, 0, 0), (1, 1, 0)], 0, down=((0, 0),)), [1])

    def test_one_host(self):
        self.assertEqual(reach(((9,), ()), [(19, 0, 3)], 19), [])

    def test_twenty_hosts_at_one_bridge(self):
        hosts = [(host, 0, 3) for host in range(19, -1, -1)]
        self.assertEqual(reach(((0,), ()), hosts, 7), [host for host in range(20) if host != 7])

    def test_as_every_way_tried_tells(self):
        for chance, plan, down in cases(7, 500):
            hosts = some_hosts(chance, plan)
            source = chance.choice(hosts)[0]
            for to in (None, source, chance.choice(hosts)[0], chance.randrange(20)):
                with self.subTest(plan=plan, down=down, hosts=hosts, source=source, to=to):
                    told = reach(plan, hosts, source, to=to, down=down)
                    self.assertEqual(told, plain_reach(plan, hosts, source, to, down))

    def test_left_out(self):
        for chance, plan, _ in cases(8, 100):
            hosts = some_hosts(chance, plan)
            source = chance.choice(hosts)[0]
            self.assertEqual(reach(plan, hosts, source), plain_reach(plan, hosts, source))

    def test_hosts_stay_as_they_were_and_told_may_be_changed(self):
        hosts = list(HOSTS)
        told = reach(LINE, hosts, 10)
        self.assertIs(type(told), list)
        self.assertEqual(hosts, HOSTS)
        told.append(99)
        self.assertEqual(reach(LINE, hosts, 10), [11, 12, 13])

    def test_hosts_may_be_changed_later(self):
        hosts = list(HOSTS)
        first = reach(LINE, hosts, 10)
        hosts.clear()
        self.assertEqual(first, [11, 12, 13])
        self.assertEqual(reach(LINE, HOSTS, 10), [11, 12, 13])


class RefusedTest(unittest.TestCase):
    def test_no_list_of_hosts(self):
        for hosts in (None, True, False, 0, 7, "", "ab", ((0, 0, 0),), ()):
            with self.subTest(hosts=hosts):
                self.assertRaises(BadHost, reach, DOWN_PLAN, hosts, 0)

    def test_no_row_of_a_host(self):
        rows = NO_NUMBERS + (0, "abc", [0, 0, 0], (0, 0), (0, 0, 0, 0))
        for row in rows:
            with self.subTest(row=row):
                self.assertRaises(BadHost, reach, DOWN_PLAN, [(1, 0, 0), row], 1)

    def test_no_host(self):
        for host in NO_NUMBERS + (-1, 20, 99, -99):
            with self.subTest(host=host):
                self.assertRaises(BadHost, reach, DOWN_PLAN, [(1, 0, 0), (host, 0, 0)], 1)

    def test_a_host_told_twice(self):
        self.assertRaises(BadHost, reach, DOWN_PLAN, [(1, 0, 0), (2, 0, 0), (1, 0, 0)], 1)
        self.assertRaises(BadHost, reach, DOWN_PLAN, [(0, 0, 0), (0, 1, 3)], 0)

    def test_no_bridge(self):
        for bridge in NO_NUMBERS + (-1, 3, 99, -99):
            with self.subTest(bridge=bridge):
                self.assertRaises(BadBridge, reach, DOWN_PLAN, [(1, 0, 0), (2, bridge, 0)], 1)

    def test_no_lan(self):
        for lan in NO_NUMBERS + (-1, 4, 99, -99):
            with self.subTest(lan=lan):
                self.assertRaises(BadLan, reach, DOWN_PLAN, [(1, 0, 0), (2, 2, lan)], 1)

    def test_no_source(self):
        for source in NO_NUMBERS + (-1, 20, 99, 2, 19):
            with self.subTest(source=source):
                self.assertRaises(BadHost, reach, DOWN_PLAN, [(1, 0, 0), (0, 0, 0)], source)
        self.assertRaises(BadHost, reach, DOWN_PLAN, [], 0)

    def test_no_goal(self):
        for to in NO_NUMBERS[1:] + (-1, 20, 99, -99):
            with self.subTest(to=to):
                self.assertRaises(BadHost, reach, DOWN_PLAN, [(1, 0, 0), (0, 0, 0)], 1, to=to)

    def test_down(self):
        for down in BAD_DOWNS:
            with self.subTest(down=down):
                self.assertRaises(BadRoad, reach, DOWN_PLAN, [(1, 0, 0)], 1, down=down)

    def test_what_is_handed_in_first_is_refused_first(self):
        def refused(error, hosts, source, **more):
            self.assertRaises(error, reach, DOWN_PLAN, hosts, source, **more)

        refused(BadHost, [(20, 9, 9)], 0)
        refused(BadBridge, [(1, 9, 9)], 0)
        refused(BadLan, [(1, 0, 9), (20, 0, 0), (1, 9, 0)], 0)
        refused(BadBridge, [(1, 9, 0), (20, 0, 0), (2, 0, 9)], 0)
        refused(BadHost, [(1, 0, 0), (1, 9, 9)], 1)
        refused(BadBridge, [(1, 0, 0), (2, 9, 0)], 5, to=20, down=None)
        refused(BadLan, [(1, 0, 9)], 5, down=None, to=20)
        refused(BadHost, [(1, 0, 0)], 5, down=None)
        refused(BadHost, [(1, 0, 0)], 1, down=None, to=20)
        refused(BadRoad, [(1, 0, 0)], 1, down=None, to=5)

    def test_what_is_refused_changes_nothing(self):
        hosts = [(1, 0, 0), (0, 2, 0), (3, 9, 0)]
        before = copy.deepcopy(hosts)
        self.assertRaises(BadBridge, reach, DOWN_PLAN, hosts, 1)
        self.assertEqual(hosts, before)

    def test_to_and_down_are_handed_in_by_name(self):
        self.assertRaises(TypeError, reach, LINE, HOSTS, 10, None)


if __name__ == "__main__":
    unittest.main()
