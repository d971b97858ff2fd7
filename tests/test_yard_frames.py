"""Points 11, 12 and 13: frames that come to bridges and lie on roads, and members cut and mended."""

import unittest

from bridgeyard.errors import BadRoad, IsDown, IsUp
from bridgeyard.trees import tree
from bridgeyard.yards import Yard
from lines import LINE, line_yard, told
from wrong import NO_NUMBERS

# Two bridges, three members between them, and a road beside the tree.
BUNDLE = ((0, 0), ((0, 1, 1, 3, (0, 1)), (0, 1, 2, 1, (0, 1))))
# A star of 0 with 1, 2 and 3; lan 1 isn't carried to 3.
STAR = ((0, 1, 1, 1), ((0, 1, 1, 1, (0, 1)), (0, 2, 1, 1, (0, 1)), (0, 3, 1, 1, (0,))))


def yard_of(plan, *hosts, **more):
    yard = Yard(plan, **more)
    for row in hosts:
        yard.plug(*row)
    yard.rest()
    return yard


def bundle_yard(many=6, **more):
    """Hosts 0 to many - 1 at bridge 0, hosts from 10 on at bridge 1, in lan 0."""
    hosts = [(host, 0, 0) for host in range(many)] + [(10 + host, 1, 0) for host in range(many)]
    return yard_of(BUNDLE, *hosts, **more)


def lying_at(yard, road, back=False):
    return {member: many for at, member, way, many in yard.lying() if (at, way) == (road, back)}


class LearnTest(unittest.TestCase):
    def test_a_bridge_learns_from_each_frame_whence_it_came(self):
        yard = yard_of(STAR, (1, 1, 0), (2, 2, 0), keep=1, guard=9)
        yard.tick()
        self.assertEqual([yard.rows(bridge) for bridge in range(4)], [[]] * 4)
        yard.send(1, to=2)
        self.assertEqual(yard.rows(1), [(0, 1, ("host", 1))])
        self.assertEqual(yard.rows(0), [])
        yard.carry(0, 0, back=True)
        self.assertEqual(yard.rows(0), [(0, 1, ("road", 0))])
        yard.rest()
        self.assertEqual(yard.rows(2), [(0, 1, ("road", 1))])
        self.assertEqual(yard.rows(3), [(0, 1, ("road", 2))])

    def test_in_the_lan_alone(self):
        yard = yard_of(STAR, (1, 1, 0), (2, 2, 1))
        yard.unplug(1)
        yard.plug(1, 1, 1)
        yard.send(2, to=1)
        self.assertEqual(lying_at(yard, 1, back=True), {0: 1})
        # Bridge 0 knows host 1 in lan 0 by its road 0 alone: in lan 1 the greeting didn't come yet.
        yard.carry(1, 0, back=True)
        self.assertEqual(lying_at(yard, 0), {0: 1})

    def test_a_known_goal_is_gone_to_alone(self):
        yard = yard_of(STAR, (0, 0, 0), (1, 1, 0), (2, 2, 0), (3, 3, 0))
        yard.send(1, to=2)
        yard.carry(0, 0, back=True)
        self.assertEqual(yard.lying(), [(1, 0, False, 1)])

    def test_an_unknown_goal_everywhere_but_whence_it_came(self):
        yard = yard_of(STAR, (0, 0, 0), (1, 1, 0), (2, 2, 0), (3, 3, 0))
        yard.send(1, to=9)
        yard.carry(0, 0, back=True)
        self.assertEqual(yard.lying(), [(1, 0, False, 1), (2, 0, False, 1)])

    def test_not_by_roads_that_do_not_carry_the_lan(self):
        yard = yard_of(STAR, (1, 1, 1), (3, 3, 1))
        yard.send(1)
        yard.carry(0, 0, back=True)
        self.assertEqual(yard.lying(), [(1, 0, False, 1)])

    def test_not_by_roads_beside_the_tree(self):
        yard = yard_of(BUNDLE, (1, 0, 0))
        yard.send(1)
        self.assertEqual([row[0] for row in yard.lying()], [0])
        ring = ((0, 0, 0), ((0, 1, 1, 1, (0,)), (0, 2, 1, 1, (0,)), (1, 2, 1, 1, (0,))))
        yard = yard_of(ring, (1, 1, 0))
        self.assertEqual(tree(ring)[2], [None, 0, 1])
        yard.send(1)
        self.assertEqual(yard.lying(), [(0, 0, True, 1)])
        self.assertEqual(yard.rest(), 2)

    def test_a_goal_known_whence_the_frame_came_is_not_gone_to(self):
        plan = ((0, 0, 0), ((0, 1, 1, 2, (0,)), (1, 2, 1, 1, (0,))))
        yard = yard_of(plan, (1, 0, 0), (2, 2, 0), (3, 1, 0))
        yard.send(1, to=2)
        ahead = yard.lying()[0]
        # Host 2 moves to bridge 0; its greeting overtakes the frame on the other member.
        yard.unplug(2)
        yard.plug(2, 0, 0)
        greeting = [row for row in yard.lying() if row != ahead][0]
        self.assertEqual((ahead[0], greeting[0], greeting[3]), (0, 0, 1))
        yard.carry(0, greeting[1])
        self.assertEqual(yard.rows(1)[1], (0, 2, ("road", 0)))
        self.assertEqual(yard.lying(), [ahead, (1, 0, False, 1)])
        yard.carry(0, ahead[1])
        self.assertEqual(yard.lying(), [(1, 0, False, 1)])
        yard.rest()
        self.assertEqual([yard.heard(host) for host in (1, 2, 3)], [[], [], []])

    def test_a_moved_goal_is_looked_for_where_it_was(self):
        yard = line_yard((1, 0, 0), (2, 2, 0), (3, 1, 0))
        yard.unplug(2)
        yard.plug(2, 0, 0)
        yard.send(3, to=2)
        self.assertEqual(yard.lying(), [(0, 0, False, 1), (1, 0, False, 1)])
        yard.rest()
        self.assertEqual(yard.heard(2), [])
        yard.send(3, to=2)
        self.assertEqual(yard.lying(), [(0, 0, True, 1)])
        yard.rest()
        self.assertEqual(yard.heard(2), [1])

    def test_a_goal_at_the_source_s_own_bridge(self):
        yard = yard_of(STAR, (1, 1, 0), (2, 2, 0))
        yard.unplug(2)
        yard.plug(2, 1, 0)
        yard.send(1, to=2)
        self.assertEqual(yard.heard(2), [0])
        self.assertEqual(yard.lying(), [(0, 0, True, 1)])

    def test_learnt_ahead_of_the_goal_looked_up(self):
        # A table of one row: to learn of the source, bridge 0 forgets the goal, and floods.
        yard = yard_of(LINE, (1, 0, 0), (2, 0, 0), most=1, guard=0)
        self.assertEqual(yard.rows(0), [(0, 2, ("host", 2))])
        yard.send(1, to=2)
        self.assertEqual(yard.rows(0), [(0, 1, ("host", 1))])
        self.assertEqual((yard.heard(2), yard.lying(), yard.counts()), ([0], [(0, 0, False, 1)], (1, 0, 0)))

    def test_goals_are_looked_up_at_the_time(self):
        yard = line_yard((1, 0, 0), (2, 2, 0), (3, 0, 0), keep=2, guard=9)
        yard.tick()
        yard.send(1, to=2)
        self.assertEqual(yard.lying(), [(0, 0, False, 1)])
        yard.tick()
        yard.carry(0, 0)
        self.assertEqual(yard.rows(1), [(0, 1, ("road", 0))])
        yard.rest()
        self.assertEqual(yard.heard(2), [0])


class HearTest(unittest.TestCase):
    def test_none_hears_a_number_twice(self):
        yard = line_yard((1, 0, 0), (2, 0, 0))
        yard.send(1)
        self.assertEqual(yard.heard(2), [0])
        yard.unplug(2)
        yard.plug(2, 2, 0)
        yard.rest()
        self.assertEqual(yard.heard(2), [0])
        yard.send(1)
        yard.rest()
        self.assertEqual(yard.heard(2), [0, 1])

    def test_one_that_is_plugged_ahead_of_the_frame_hears_it(self):
        yard = line_yard((1, 0, 0))
        yard.send(1)
        yard.plug(2, 2, 0)
        yard.rest()
        self.assertEqual(yard.heard(2), [0])

    def test_none_of_another_lan(self):
        yard = line_yard((1, 0, 0), (2, 2, 0))
        yard.send(1, to=2)
        yard.send(1)
        yard.unplug(2)
        yard.plug(2, 2, 1)
        yard.rest()
        self.assertEqual(yard.heard(2), [])

    def test_none_hears_its_own_or_what_is_for_another(self):
        yard = line_yard((1, 1, 0), (2, 1, 0), (3, 2, 0), keep=1, guard=9)
        yard.tick()
        yard.send(1, to=3, times=2)
        yard.rest()
        self.assertEqual((yard.heard(1), yard.heard(2), yard.heard(3)), ([], [], [0, 1]))


class MembersTest(unittest.TestCase):
    def test_a_talk_keeps_to_one_member(self):
        yard = bundle_yard(guard=9)
        for _ in range(4):
            yard.send(0, to=10, times=2)
            self.assertEqual(list(lying_at(yard, 0).values()), [2])
            yard.send(0, to=10)
            member = list(lying_at(yard, 0))[0]
            for _ in range(3):
                self.assertTrue(yard.carry(0, member))
                self.assertLessEqual(len(lying_at(yard, 0)), 1)
        self.assertEqual(yard.heard(10), list(range(12)))

    def test_while_other_talks_come_and_go(self):
        yard = bundle_yard(guard=9)
        yard.send(0, to=10)
        place = list(lying_at(yard, 0))[0]
        for host in (1, 2, 3, 4, 5):
            yard.send(host, to=10 + host, times=3)
        before = lying_at(yard, 0)
        yard.send(0, to=10)
        self.assertEqual(lying_at(yard, 0), {**before, place: before[place] + 1})

    def test_greetings_are_of_the_talk_to_all(self):
        yard = Yard(BUNDLE)
        for host in (1, 2, 3, 4):
            yard.plug(host, 0, 0)
        for host in (1, 2, 3, 4):
            yard.send(host)
        counts = lying_at(yard, 0)
        self.assertEqual(sum(counts.values()), 8)
        self.assertEqual([many % 2 for many in counts.values()], [0] * len(counts))

    def test_each_way_of_its_own(self):
        yard = bundle_yard()
        yard.send(0, to=10)
        yard.send(10, to=0)
        self.assertEqual([len(lying_at(yard, 0, back)) for back in (False, True)], [1, 1])
        yard.rest()
        self.assertEqual((yard.heard(10), yard.heard(0)), ([0], [1]))

    def test_only_members_that_are_up(self):
        for cut in ((0, 1), (1, 2), (0, 2), (0,), (1,), (2,)):
            yard = bundle_yard(guard=9)
            for member in cut:
                yard.cut(0, member)
            for host in range(6):
                yard.send(host, times=2)
                yard.send(host, to=10 + host)
            with self.subTest(cut=cut):
                self.assertFalse(set(lying_at(yard, 0)) & set(cut))
                self.assertEqual(sum(lying_at(yard, 0).values()), 18)

    def test_a_member_mended_amid_a_talk_takes_none_of_it(self):
        yard = bundle_yard()
        yard.cut(0, 0)
        yard.cut(0, 1)
        yard.send(0, to=10)
        self.assertEqual(lying_at(yard, 0), {2: 1})
        yard.mend(0, 0)
        yard.mend(0, 1)
        self.assertEqual(lying_at(yard, 0), {2: 1})
        yard.send(0, to=10)
        self.assertEqual(lying_at(yard, 0), {2: 2})

    def test_a_talk_on_several_roads(self):
        yard = yard_of(STAR, (0, 0, 0), (1, 1, 0), (2, 2, 0), (3, 3, 0), guard=9)
        yard.send(0, times=2)
        self.assertEqual(yard.lying(), [(0, 0, False, 2), (1, 0, False, 2), (2, 0, False, 2)])
        yard.carry(1, 0)
        yard.carry(1, 0)
        yard.carry(0, 0)
        self.assertEqual([yard.heard(host) for host in (1, 2, 3)], [[0], [0, 1], []])
        self.assertEqual(yard.rest(), 3)
        self.assertEqual([yard.heard(host) for host in (1, 2, 3)], [[0, 1]] * 3)

    def test_the_turn_of_a_talk_in_any_turn_of_members(self):
        for turn in ((0, 1, 2), (2, 1, 0), (1, 2, 0)):
            yard = bundle_yard(guard=9)
            for host in range(6):
                yard.send(host, to=10, times=2)
            for host in range(6):
                yard.send(host, to=10)
            for member in turn:
                while yard.carry(0, member):
                    pass
            heard = yard.heard(10)
            self.assertEqual(sorted(heard), list(range(18)))
            for host in range(6):
                talk = [2 * host, 2 * host + 1, 12 + host]
                self.assertEqual([number for number in heard if number in talk], talk)


class CarryTest(unittest.TestCase):
    def test_the_first_one_comes_to_the_other_end(self):
        yard = line_yard((1, 0, 0), (2, 1, 0))
        yard.send(1, times=2)
        self.assertIs(yard.carry(0, 0), True)
        self.assertEqual((yard.heard(2), yard.lying()), ([0], [(0, 0, False, 1), (1, 0, False, 1)]))
        self.assertIs(yard.carry(0, 0, back=False), True)
        self.assertIs(yard.carry(0, 0), False)
        self.assertEqual(yard.heard(2), [0, 1])

    def test_back_to_the_lesser_one(self):
        yard = line_yard((1, 0, 0), (2, 1, 0))
        yard.send(2, to=1)
        self.assertEqual(yard.lying(), [(0, 0, True, 1)])
        self.assertIs(yard.carry(0, 0), False)
        self.assertIs(yard.carry(0, 0, back=False), False)
        self.assertIs(yard.carry(0, 0, back=True), True)
        self.assertEqual((yard.heard(1), yard.lying()), ([0], []))
        self.assertIs(yard.carry(0, 0, back=True), False)

    def test_whatever_the_ranks_are(self):
        for ranks in ((0, 9), (9, 0), (4, 4)):
            yard = yard_of((ranks, ((0, 1, 1, 1, (0,)),)), (1, 0, 0), (2, 1, 0))
            yard.send(1, to=2)
            self.assertEqual(yard.lying(), [(0, 0, False, 1)])
            self.assertTrue(yard.carry(0, 0))
            self.assertEqual(yard.heard(2), [0])

    def test_nothing_lies_on_a_member_that_is_down(self):
        yard = bundle_yard()
        yard.cut(0, 1)
        self.assertIs(yard.carry(0, 1), False)
        self.assertIs(yard.carry(1, 0, back=True), False)

    def test_refused(self):
        yard = yard_of(BUNDLE, (1, 0, 0), (2, 1, 0))
        yard.send(1)
        before = told(yard)
        for road in NO_NUMBERS + (-1, 2, 8, 99):
            for more in ({}, {"back": True}):
                self.assertRaises(BadRoad, yard.carry, road, 0, **more)
        for member in NO_NUMBERS + (-1, 3, 99):
            self.assertRaises(BadRoad, yard.carry, 0, member)
        self.assertRaises(BadRoad, yard.carry, 1, 1, back=True)
        self.assertEqual(told(yard), before)
        self.assertRaises(TypeError, yard.carry, 0, 0, True)

    def test_a_yard_without_roads(self):
        self.assertRaises(BadRoad, Yard(((0,), ())).carry, 0, 0)


class RestTest(unittest.TestCase):
    def test_it_tells_how_many_that_were(self):
        yard = yard_of(STAR, (1, 1, 0), (2, 2, 0), (3, 3, 0))
        yard.send(1, times=2)
        self.assertEqual(yard.rest(), 6)
        self.assertEqual(yard.rest(), 0)
        self.assertEqual((yard.heard(2), yard.heard(3), yard.lying()), ([0, 1], [0, 1], []))

    def test_greetings_too(self):
        yard = Yard(STAR)
        yard.plug(1, 1, 0)
        yard.plug(2, 0, 1)
        self.assertEqual(yard.rest(), 5)

    def test_both_ways_and_all_members(self):
        yard = bundle_yard(guard=9)
        for host in range(6):
            yard.send(host, times=2)
            yard.send(10 + host, to=host)
        self.assertEqual(yard.rest(), 18)
        self.assertEqual(yard.lying(), [])


class LyingTest(unittest.TestCase):
    def test_rising_with_greetings(self):
        yard = Yard(LINE)
        yard.plug(1, 1, 0)
        yard.plug(2, 2, 0)
        yard.plug(3, 0, 3)
        self.assertEqual(yard.lying(), [(0, 0, False, 1), (0, 0, True, 1), (1, 0, False, 1), (1, 0, True, 1)])
        yard.send(1, to=9)
        self.assertEqual(yard.lying(), [(0, 0, False, 1), (0, 0, True, 2), (1, 0, False, 2), (1, 0, True, 1)])


class CutTest(unittest.TestCase):
    def test_all_that_lies_on_roads_is_lost(self):
        yard = line_yard((1, 0, 0), (2, 1, 0), (3, 2, 0))
        yard.send(2, times=2)
        yard.send(1, to=3)
        yard.plug(4, 2, 0)
        self.assertEqual(sum(row[3] for row in yard.lying()), 6)
        self.assertIsNone(yard.cut(1, 0))
        self.assertEqual((yard.lying(), yard.counts(), yard.down()), ([], (3, 0, 5), [(1, 0)]))
        self.assertEqual(yard.rest(), 0)
        self.assertEqual((yard.heard(1), yard.heard(3)), ([], []))

    def test_all_bridges_forget_what_they_learnt_by_roads(self):
        yard = line_yard((1, 0, 0), (2, 1, 0), (3, 2, 0))
        yard.cut(1, 0)
        for bridge in range(3):
            self.assertEqual(yard.rows(bridge), [(0, bridge + 1, ("host", bridge + 1))])

    def test_one_member_of_several_does_it_too(self):
        yard = bundle_yard(1)
        yard.send(0, to=10)
        yard.cut(0, 2)
        self.assertEqual(yard.tree(), tree(BUNDLE))
        self.assertEqual((yard.lying(), yard.counts()), ([], (1, 0, 1)))
        self.assertEqual(yard.rows(1), [(0, 10, ("host", 10))])

    def test_a_road_beside_the_tree_does_it_too(self):
        yard = bundle_yard(1)
        yard.send(0, to=10)
        yard.cut(1, 0)
        self.assertEqual((yard.lying(), yard.counts(), yard.rows(0)), ([], (1, 0, 1), [(0, 0, ("host", 0))]))

    def test_frames_go_by_the_tree_that_is_left(self):
        yard = bundle_yard(1)
        for member in (0, 1, 2):
            yard.cut(0, member)
        self.assertEqual(yard.tree(), tree(BUNDLE, down=((0, 0), (0, 1), (0, 2))))
        yard.send(0, to=10)
        self.assertEqual(yard.lying(), [(1, 0, False, 1)])
        yard.rest()
        self.assertEqual(yard.heard(10), [0])
        yard.cut(1, 0)
        yard.send(0)
        self.assertEqual((yard.lying(), yard.heard(10)), ([], [0]))

    def test_refused(self):
        yard = bundle_yard(1)
        yard.cut(0, 1)
        yard.send(0)
        before = told(yard)
        for ask in (yard.cut, yard.mend):
            for thing in NO_NUMBERS + (-1, 99):
                self.assertRaises(BadRoad, ask, thing, 0)
                self.assertRaises(BadRoad, ask, 0, thing)
            for pair in ((2, 0), (0, 3), (1, 1), (2, 9)):
                self.assertRaises(BadRoad, ask, *pair)
        self.assertRaises(IsDown, yard.cut, 0, 1)
        self.assertRaises(IsUp, yard.mend, 0, 0)
        self.assertRaises(IsUp, yard.mend, 1, 0)
        self.assertEqual(told(yard), before)


class MendTest(unittest.TestCase):
    def test_one_that_makes_the_tree_another_one(self):
        yard = bundle_yard(1)
        for member in (0, 1, 2):
            yard.cut(0, member)
        yard.send(0)
        yard.rest()
        yard.send(0, to=10)
        self.assertEqual(yard.rows(1), [(0, 0, ("road", 1)), (0, 10, ("host", 10))])
        self.assertIsNone(yard.mend(0, 1))
        self.assertEqual((yard.lying(), yard.counts()), ([], (2, 0, 1)))
        self.assertEqual(yard.rows(1), [(0, 10, ("host", 10))])
        self.assertEqual((yard.down(), yard.tree()), ([(0, 0), (0, 2)], tree(BUNDLE)))

    def test_one_that_does_not(self):
        for cut in ((0, 2), (1, 0)):
            yard = bundle_yard(1)
            yard.cut(*cut)
            yard.send(0)
            yard.rest()
            yard.send(0, to=10)
            before = yard.lying(), yard.rows(0), yard.rows(1)
            self.assertEqual(len(before[2]), 2)
            self.assertIsNone(yard.mend(*cut))
            self.assertEqual((yard.lying(), yard.rows(0), yard.rows(1)), before)
            self.assertEqual((yard.down(), yard.counts()), ([], (2, 0, 0)))

    def test_one_that_joins_what_was_apart(self):
        yard = line_yard((1, 0, 0), (3, 2, 0))
        yard.cut(1, 0)
        yard.send(1)
        yard.rest()
        self.assertEqual(yard.heard(3), [])
        yard.mend(1, 0)
        self.assertEqual(yard.tree(), tree(LINE))
        yard.send(1)
        yard.rest()
        self.assertEqual(yard.heard(3), [1])


class TickTest(unittest.TestCase):
    def test_it_tells_none_and_nothing_on_roads_is_lost(self):
        yard = line_yard((1, 0, 0), (2, 2, 0))
        yard.send(1)
        self.assertIsNone(yard.tick())
        self.assertEqual((yard.lying(), yard.counts()), ([(0, 0, False, 1)], (1, 0, 0)))

    def test_rows_are_forgotten_in_time(self):
        yard = line_yard((1, 0, 0), keep=3)
        yard.tick()
        yard.send(1)
        yard.tick()
        yard.tick()
        self.assertEqual([len(yard.rows(bridge)) for bridge in range(3)], [1, 0, 0])
        yard.tick()
        self.assertEqual(yard.rows(0), [])


if __name__ == "__main__":
    unittest.main()
