"""Points 9, 10 and 14: hosts, what they send and what is guarded, and what a Yard tells of them."""

import unittest

from bridgeyard.errors import BadBridge, BadCount, BadHost, BadLan, NotPlugged, Plugged
from bridgeyard.trees import tree
from bridgeyard.yards import GUARD, Yard
from lines import LINE, line_yard, told
from wrong import NO_NUMBERS

NO_HOSTS = NO_NUMBERS + (-1, 20, 99, -99)


class NewTest(unittest.TestCase):
    def test_nothing_is_there(self):
        yard = Yard(LINE)
        self.assertEqual((yard.hosts(), yard.lying(), yard.down(), yard.log()), ([], [], [], []))
        self.assertEqual((yard.counts(), yard.is_open(), yard.tree()), ((0, 0, 0), True, tree(LINE)))
        self.assertEqual([yard.rows(bridge) for bridge in range(3)], [[], [], []])
        self.assertEqual([yard.heard(host) for host in range(20)], [[]] * 20)
        self.assertEqual(yard.rest(), 0)

    def test_counts_at_their_bounds(self):
        for keep in (1, 30):
            for most in (1, 20):
                for guard in (0, 9):
                    self.assertEqual(Yard(LINE, guard=guard, most=most, keep=keep).counts(), (0, 0, 0))

    def test_wrong_counts(self):
        for count in NO_NUMBERS + (-1, 99):
            for word in ("keep", "most", "guard"):
                with self.subTest(word, count=count):
                    self.assertRaises(BadCount, Yard, LINE, **{word: count})
        for word, count in (("keep", 0), ("keep", 31), ("most", 0), ("most", 21), ("guard", 10)):
            self.assertRaises(BadCount, Yard, LINE, **{word: count})

    def test_handed_in_by_name(self):
        self.assertRaises(TypeError, Yard, LINE, 8)

    def test_keep_and_most_are_its_tables(self):
        yard = line_yard((1, 0, 0), (2, 0, 0), (3, 0, 0), keep=2, most=2)
        self.assertEqual([row[1] for row in yard.rows(2)], [2, 3])
        yard.tick()
        self.assertEqual([row[1] for row in yard.rows(2)], [2, 3])
        yard.tick()
        self.assertEqual([yard.rows(bridge) for bridge in range(3)], [[], [], []])

    def test_left_out_eight_twelve_and_three(self):
        yard = line_yard(*[(host, 0, 0) for host in range(13)])
        self.assertEqual([row[1] for row in yard.rows(0)], list(range(1, 13)))
        for _ in range(7):
            yard.tick()
        self.assertEqual(len(yard.rows(0)), 12)
        yard.tick()
        self.assertEqual(yard.rows(0), [])
        self.assertEqual(GUARD, 3)
        yard.send(0, times=4)
        self.assertEqual(yard.counts(), (4, 1, 0))


class PlugTest(unittest.TestCase):
    def test_a_host_is_told(self):
        yard = Yard(LINE)
        self.assertIsNone(yard.plug(19, 2, 3))
        self.assertIsNone(yard.plug(0, 0, 0))
        self.assertEqual(yard.hosts(), [(0, 0, 0), (19, 2, 3)])

    def test_it_greets_all_bridges_of_its_lan(self):
        yard = Yard(LINE)
        yard.plug(7, 0, 0)
        self.assertEqual(yard.rows(0), [(0, 7, ("host", 7))])
        self.assertEqual(yard.lying(), [(0, 0, False, 1)])
        self.assertEqual((yard.rows(1), yard.rows(2)), ([], []))
        self.assertEqual(yard.rest(), 2)
        self.assertEqual(yard.rows(1), [(0, 7, ("road", 0))])
        self.assertEqual(yard.rows(2), [(0, 7, ("road", 1))])
        self.assertEqual(yard.lying(), [])

    def test_only_by_roads_that_carry_its_lan(self):
        yard = line_yard((7, 0, 3), (8, 1, 2))
        self.assertEqual([len(yard.rows(bridge)) for bridge in range(3)], [1, 2, 0])
        self.assertEqual(yard.rows(1), [(2, 8, ("host", 8)), (3, 7, ("road", 0))])

    def test_greetings_have_no_number_and_nobody_hears_them(self):
        yard = line_yard((1, 0, 0), (2, 1, 0), (3, 2, 0), (4, 2, 0))
        self.assertEqual([yard.heard(host) for host in range(5)], [[]] * 5)
        self.assertEqual(yard.counts(), (0, 0, 0))
        self.assertEqual(yard.send(1), [0])

    def test_greetings_are_never_guarded_and_count_for_none(self):
        yard = Yard(LINE, guard=1)
        for _ in range(3):
            yard.plug(1, 0, 0)
            self.assertEqual(yard.lying(), [(0, 0, False, 1)])
            yard.unplug(1)
        yard.plug(1, 0, 0)
        yard.send(1)
        self.assertEqual((yard.lying(), yard.counts()), ([(0, 0, False, 2)], (1, 0, 0)))
        self.assertEqual(Yard(LINE, guard=0).plug(1, 0, 0), None)

    def test_a_greeting_that_is_lost_counts_for_none(self):
        yard = Yard(LINE)
        yard.plug(1, 1, 0)
        self.assertEqual(yard.lying(), [(0, 0, True, 1), (1, 0, False, 1)])
        yard.unplug(1)
        self.assertEqual((yard.lying(), yard.counts()), ([], (0, 0, 0)))

    def test_refused(self):
        yard = line_yard((1, 0, 0))
        before = told(yard)
        for host in NO_HOSTS:
            self.assertRaises(BadHost, yard.plug, host, 99, 99)
            self.assertRaises(BadHost, yard.plug, host, 0, 0)
        for bridge in NO_NUMBERS + (-1, 3, 99):
            self.assertRaises(BadBridge, yard.plug, 2, bridge, 0)
            self.assertRaises(BadBridge, yard.plug, 1, bridge, 99)
        for lan in NO_NUMBERS + (-1, 4, 99):
            self.assertRaises(BadLan, yard.plug, 2, 0, lan)
            self.assertRaises(BadLan, yard.plug, 1, 0, lan)
        self.assertRaises(Plugged, yard.plug, 1, 0, 0)
        self.assertRaises(Plugged, yard.plug, 1, 2, 3)
        self.assertEqual(told(yard), before)

    def test_at_the_bounds(self):
        for host, bridge, lan in ((0, 0, 0), (19, 2, 3), (0, 2, 3), (19, 0, 0)):
            yard = Yard(LINE)
            yard.plug(host, bridge, lan)
            self.assertEqual(yard.hosts(), [(host, bridge, lan)])


class UnplugTest(unittest.TestCase):
    def test_its_bridge_forgets_it_in_that_lan_and_others_do_not(self):
        yard = line_yard((1, 0, 0), (2, 0, 0))
        self.assertIsNone(yard.unplug(1))
        self.assertEqual(yard.rows(0), [(0, 2, ("host", 2))])
        self.assertEqual(yard.rows(1), [(0, 1, ("road", 0)), (0, 2, ("road", 0))])
        self.assertEqual(yard.hosts(), [(2, 0, 0)])

    def test_rows_of_other_lans_stay(self):
        yard = line_yard((1, 1, 0))
        yard.unplug(1)
        yard.plug(1, 0, 1)
        yard.rest()
        yard.unplug(1)
        self.assertEqual(yard.rows(0), [(0, 1, ("road", 0))])
        self.assertEqual(yard.rows(1), [(1, 1, ("road", 0))])

    def test_what_it_sent_and_lies_on_roads_is_lost(self):
        yard = line_yard((1, 1, 0), (2, 0, 0), (3, 2, 0))
        yard.send(1, times=2)
        yard.send(2)
        yard.send(1, to=3)
        self.assertEqual(yard.lying(), [(0, 0, False, 1), (0, 0, True, 2), (1, 0, False, 3)])
        yard.unplug(1)
        self.assertEqual(yard.lying(), [(0, 0, False, 1)])
        # Each of the two that went to all lay on two roads.
        self.assertEqual(yard.counts(), (4, 0, 5))
        yard.rest()
        self.assertEqual((yard.heard(2), yard.heard(3)), ([], [2]))

    def test_what_others_sent_to_it_goes_on_and_is_heard_by_none(self):
        yard = line_yard((1, 0, 0), (3, 2, 0))
        yard.send(1, to=3)
        yard.unplug(3)
        self.assertEqual(yard.lying(), [(0, 0, False, 1)])
        self.assertEqual(yard.rest(), 2)
        self.assertEqual((yard.heard(3), yard.counts()), ([], (1, 0, 0)))

    def test_what_it_heard_stays_told_wherever_it_is(self):
        yard = line_yard((1, 0, 0), (2, 2, 0))
        yard.send(1)
        yard.rest()
        yard.unplug(2)
        self.assertEqual(yard.heard(2), [0])
        yard.plug(2, 0, 0)
        yard.send(1)
        self.assertEqual(yard.heard(2), [0, 1])

    def test_refused(self):
        yard = line_yard((1, 0, 0))
        before = told(yard)
        for host in NO_HOSTS:
            self.assertRaises(BadHost, yard.unplug, host)
        for host in (0, 2, 19):
            self.assertRaises(NotPlugged, yard.unplug, host)
        self.assertEqual(told(yard), before)
        yard.unplug(1)
        self.assertRaises(NotPlugged, yard.unplug, 1)


class SendTest(unittest.TestCase):
    def test_numbers_from_none_on(self):
        yard = line_yard((1, 0, 0), (2, 2, 1), guard=2)
        self.assertEqual(yard.send(1), [0])
        self.assertEqual(yard.send(2, times=9), list(range(1, 10)))
        self.assertEqual(yard.send(1, to=5, times=1), [10])
        self.assertEqual(yard.send(1, times=2, to=None), [11, 12])

    def test_to_all_of_the_lan(self):
        yard = line_yard((1, 0, 0), (2, 0, 0), (3, 1, 0), (4, 2, 0), (5, 2, 1), (6, 0, 1))
        yard.send(1)
        self.assertEqual([yard.heard(host) for host in range(1, 7)], [[], [0], [], [], [], []])
        yard.rest()
        self.assertEqual([yard.heard(host) for host in range(1, 7)], [[], [0], [0], [0], [], []])

    def test_to_one_that_is_known(self):
        yard = line_yard((1, 0, 0), (2, 0, 0), (3, 1, 0), (4, 2, 0))
        yard.send(1, to=4)
        self.assertEqual(yard.lying(), [(0, 0, False, 1)])
        self.assertEqual(yard.rest(), 2)
        self.assertEqual([yard.heard(host) for host in (1, 2, 3, 4)], [[], [], [], [0]])

    def test_to_one_at_the_same_bridge(self):
        yard = line_yard((1, 0, 0), (2, 0, 0))
        yard.send(1, to=2)
        self.assertEqual((yard.heard(2), yard.lying(), yard.counts()), ([0], [], (1, 0, 0)))

    def test_to_one_that_is_forgotten(self):
        yard = line_yard((1, 1, 0), (2, 0, 0), (3, 2, 0), keep=1, guard=9)
        yard.tick()
        yard.send(1, to=3)
        self.assertEqual(yard.lying(), [(0, 0, True, 1), (1, 0, False, 1)])
        yard.rest()
        self.assertEqual([yard.heard(host) for host in (1, 2, 3)], [[], [], [0]])

    def test_to_one_in_another_lan_or_plugged_nowhere(self):
        yard = line_yard((1, 0, 0), (2, 2, 1), guard=9)
        yard.send(1, to=2)
        yard.send(1, to=9)
        yard.rest()
        self.assertEqual([yard.heard(host) for host in (1, 2, 9)], [[], [], []])

    def test_refused(self):
        yard = line_yard((1, 0, 0), (2, 2, 0))
        yard.send(2)
        before = told(yard)
        for host in NO_HOSTS:
            self.assertRaises(BadHost, yard.send, host)
            self.assertRaises(BadHost, yard.send, host, to=host, times=0)
        for host in (0, 3, 19):
            self.assertRaises(NotPlugged, yard.send, host)
            self.assertRaises(NotPlugged, yard.send, host, times=0, to=99)
            self.assertRaises(NotPlugged, yard.send, host, to=host)
        for to in NO_HOSTS[1:] + (1,):
            self.assertRaises(BadHost, yard.send, 1, to=to)
            self.assertRaises(BadHost, yard.send, 1, times=0, to=to)
        for times in NO_NUMBERS + (0, 10, -1, 99):
            self.assertRaises(BadCount, yard.send, 1, times=times)
            self.assertRaises(BadCount, yard.send, 1, times=times, to=2)
        self.assertEqual(told(yard), before)

    def test_handed_in_by_name(self):
        yard = line_yard((1, 0, 0))
        self.assertRaises(TypeError, yard.send, 1, None)

    def test_times_at_their_bounds(self):
        for times in (1, 9):
            yard = line_yard((1, 0, 0), (2, 0, 0), guard=9)
            yard.send(1, times=times)
            self.assertEqual(yard.heard(2), list(range(times)))


class GuardTest(unittest.TestCase):
    def test_what_goes_to_all(self):
        yard = line_yard((1, 0, 0), (2, 1, 0))
        self.assertEqual(yard.send(1, times=5), [0, 1, 2, 3, 4])
        self.assertEqual(yard.counts(), (5, 2, 0))
        self.assertEqual(yard.lying(), [(0, 0, False, 3)])
        yard.rest()
        self.assertEqual(yard.heard(2), [0, 1, 2])

    def test_what_goes_to_one_that_is_not_known_counts_with_it(self):
        yard = line_yard((1, 0, 0), (2, 1, 0), guard=2)
        yard.send(1, to=9)
        yard.send(1)
        yard.send(1, to=9)
        yard.send(1)
        self.assertEqual(yard.counts(), (4, 2, 0))

    def test_what_goes_to_one_that_is_known_does_not(self):
        yard = line_yard((1, 0, 0), (2, 1, 0), guard=1)
        yard.send(1, to=2, times=9)
        self.assertEqual(yard.counts(), (9, 0, 0))
        yard.send(1)
        yard.send(1, to=2)
        self.assertEqual(yard.counts(), (11, 0, 0))
        yard.send(1)
        self.assertEqual(yard.counts(), (12, 1, 0))

    def test_none_and_nine(self):
        yard = line_yard((1, 0, 0), (2, 0, 0), guard=0)
        yard.send(1, times=9)
        self.assertEqual((yard.counts(), yard.heard(2), yard.lying()), ((9, 9, 0), [], []))
        yard.send(1, to=2)
        self.assertEqual(yard.heard(2), [9])
        yard = line_yard((1, 0, 0), (2, 0, 0), guard=9)
        yard.send(1, times=9)
        self.assertEqual(yard.counts(), (9, 0, 0))
        yard.send(1)
        self.assertEqual((yard.counts(), yard.heard(2)), ((10, 1, 0), list(range(9))))

    def test_it_goes_nowhere(self):
        yard = line_yard((1, 0, 0), (2, 0, 0), guard=0)
        before = [yard.rows(bridge) for bridge in range(3)]
        yard.send(1)
        self.assertEqual((yard.heard(2), yard.lying()), ([], []))
        self.assertEqual([yard.rows(bridge) for bridge in range(3)], before)

    def test_nothing_is_learnt_of_it(self):
        yard = line_yard((1, 0, 0), guard=0, keep=1)
        yard.tick()
        yard.send(1)
        self.assertEqual(yard.rows(0), [])

    def test_anew_behind_each_tick(self):
        yard = line_yard((1, 0, 0), (2, 0, 0), guard=1)
        for turn in range(3):
            yard.send(1, times=2)
            self.assertEqual(yard.counts(), (2 * turn + 2, turn + 1, 0))
            yard.tick()
        self.assertEqual(yard.heard(2), [0, 2, 4])

    def test_each_host_of_its_own(self):
        yard = line_yard((1, 0, 0), (2, 0, 0), guard=1)
        for host in (1, 2, 1, 2):
            yard.send(host)
        self.assertEqual((yard.counts(), yard.heard(1), yard.heard(2)), ((4, 2, 0), [1], [0]))

    def test_wherever_it_is_plugged(self):
        yard = line_yard((1, 0, 0), guard=1)
        yard.send(1)
        yard.unplug(1)
        yard.plug(1, 2, 1)
        yard.send(1)
        self.assertEqual(yard.counts()[:2], (2, 1))

    def test_flooded_where_nobody_is(self):
        yard = Yard(((0,), ()), guard=1)
        yard.plug(1, 0, 0)
        yard.send(1, times=2)
        self.assertEqual(yard.counts(), (2, 1, 0))

    def test_a_guarded_frame_is_not_lost(self):
        yard = line_yard((1, 0, 0), guard=1)
        yard.send(1, times=3)
        yard.cut(0, 0)
        self.assertEqual(yard.counts(), (3, 2, 1))


class ToldTest(unittest.TestCase):
    def test_refused(self):
        yard = line_yard((1, 0, 0))
        before = told(yard)
        for host in NO_HOSTS:
            self.assertRaises(BadHost, yard.heard, host)
        for bridge in NO_NUMBERS + (-1, 3, 99):
            self.assertRaises(BadBridge, yard.rows, bridge)
        self.assertEqual(told(yard), before)

    def test_heard_of_each_host(self):
        yard = Yard(LINE)
        self.assertEqual([yard.heard(0), yard.heard(19)], [[], []])

    def test_heard_is_told_in_turn(self):
        yard = line_yard((1, 0, 0), (2, 2, 0), (3, 1, 0))
        yard.send(1, to=3)
        yard.send(2, to=3)
        yard.carry(1, 0, back=True)
        yard.carry(0, 0)
        self.assertEqual(yard.heard(3), [1, 0])

    def test_hosts_and_down_rise(self):
        yard = Yard(((0, 0), ((0, 1, 1, 3, ()), (0, 1, 1, 1, ()))))
        for host in (9, 0, 19, 4):
            yard.plug(host, host % 2, 3)
        self.assertEqual(yard.hosts(), [(0, 0, 3), (4, 0, 3), (9, 1, 3), (19, 1, 3)])
        for member in ((1, 0), (0, 2), (0, 0)):
            yard.cut(*member)
        self.assertEqual(yard.down(), [(0, 0), (0, 2), (1, 0)])

    def test_kinds(self):
        yard = line_yard((1, 0, 0))
        yard.send(1)
        for word in ("hosts", "lying", "down", "log"):
            self.assertIs(type(getattr(yard, word)()), list)
        self.assertEqual([type(row) for row in yard.hosts() + yard.lying() + yard.rows(0)], [tuple] * 3)
        self.assertIs(type(yard.lying()[0][2]), bool)
        self.assertEqual((type(yard.tree()), type(yard.counts())), (tuple, tuple))


if __name__ == "__main__":
    unittest.main()
