"""Points 3 and 4: roads that are up, names, the tree."""

import unittest

from bridgeyard.errors import BadRoad
from bridgeyard.trees import tree
from plain import cases, members, plain_tree
from wrong import BAD_DOWNS, DOWN_PLAN

TRIANGLE = ((5, 2, 2), ((0, 1, 3, 1, (0,)), (0, 2, 3, 1, (0, 1)), (1, 2, 1, 2, ()), (1, 2, 1, 1, (3,))))


class TreeTest(unittest.TestCase):
    def test_one_bridge(self):
        for rank in (0, 9):
            self.assertEqual(tree(((rank,), ())), ([0], [0], [None]))

    def test_no_road_leaves_each_a_root(self):
        self.assertEqual(tree(((0,) * 6, ())), ([0, 1, 2, 3, 4, 5], [0] * 6, [None] * 6))

    def test_a_triangle(self):
        self.assertEqual(tree(TRIANGLE), ([1, 1, 1], [3, 0, 1], [0, None, 2]))

    def test_told_is_a_tuple_of_lists(self):
        told = tree(TRIANGLE)
        self.assertIs(tuple, type(told))
        self.assertEqual([type(part) for part in told], [list] * 3)

    def test_a_road_is_up_while_one_member_is(self):
        for member in (0, 1):
            self.assertEqual(tree(TRIANGLE, down=((2, member),)), ([1, 1, 1], [3, 0, 1], [0, None, 2]))
        self.assertEqual(tree(TRIANGLE, down=((2, 1), (2, 0)))[2], [0, None, 3])

    def test_three_members(self):
        plan = ((0, 0), ((0, 1, 9, 3, ()),))
        self.assertEqual(tree(plan, down=((0, 2), (0, 0))), ([0, 0], [0, 9], [None, 0]))
        self.assertEqual(tree(plan, down=((0, 2), (0, 0), (0, 1))), ([0, 1], [0, 0], [None, None]))

    def test_farther_round_when_the_nearer_is_down(self):
        down = ((2, 0), (2, 1), (3, 0))
        self.assertEqual(tree(TRIANGLE, down=down), ([1, 1, 1], [3, 0, 6], [0, None, 1]))

    def test_a_bridge_to_which_no_road_leads_is_a_root(self):
        self.assertEqual(tree(TRIANGLE, down=((0, 0), (1, 0))), ([0, 1, 1], [0, 0, 1], [None, None, 2]))

    def test_all_down(self):
        self.assertEqual(tree(TRIANGLE, down=tuple(members(TRIANGLE))), ([0, 1, 2], [0, 0, 0], [None] * 3))

    def test_a_member_told_twice_is_down_all_the_same(self):
        self.assertEqual(tree(TRIANGLE, down=((2, 0), (2, 0)))[2], [0, None, 2])

    def test_rank_comes_ahead_of_number(self):
        roads = ((0, 1, 1, 1, ()), (1, 2, 1, 1, ()))
        self.assertEqual(tree(((9, 9, 0), roads)), ([2, 2, 2], [2, 1, 0], [0, 1, None]))
        self.assertEqual(tree(((9, 9, 9), roads)), ([0, 0, 0], [0, 1, 2], [None, 0, 1]))

    def test_a_nearer_bridge_of_a_greater_name_is_no_root(self):
        plan = ((1, 1, 0), ((0, 1, 1, 1, ()), (1, 2, 9, 1, ())))
        self.assertEqual(tree(plan), ([2, 2, 2], [10, 9, 0], [0, 1, None]))

    def test_many_cheap_roads_are_taken_ahead_of_one_dear(self):
        ring = tuple((bridge, bridge + 1, 1, 1, ()) for bridge in range(5)) + ((0, 5, 6, 1, ()),)
        self.assertEqual(tree(((0,) * 6, ring)), ([0] * 6, [0, 1, 2, 3, 4, 5], [None, 0, 1, 2, 3, 4]))

    def test_of_alike_sums_the_least_bridge_by_name(self):
        roads = ((0, 1, 2, 1, ()), (0, 2, 2, 1, ()), (1, 3, 1, 1, ()), (2, 3, 1, 1, ()))
        self.assertEqual(tree(((0, 9, 1, 5), roads))[2], [None, 0, 1, 3])
        self.assertEqual(tree(((0, 1, 9, 5), roads))[2], [None, 0, 1, 2])
        self.assertEqual(tree(((0, 4, 4, 5), roads))[2], [None, 0, 1, 2])

    def test_the_bridge_goes_ahead_of_the_road(self):
        roads = ((2, 3, 1, 1, ()), (1, 3, 1, 1, ()), (0, 2, 2, 1, ()), (0, 1, 2, 1, ()))
        self.assertEqual(tree(((0, 4, 4, 5), roads))[2], [None, 3, 2, 1])

    def test_the_next_bridge_counts_and_not_the_dearer_road(self):
        # From bridge 2: straight to the root for 3, or by bridge 1 for 2 and 1.
        roads = ((1, 2, 2, 1, ()), (0, 1, 1, 1, ()), (0, 2, 3, 1, ()))
        self.assertEqual(tree(((0, 0, 0), roads)), ([0, 0, 0], [0, 1, 3], [None, 1, 2]))

    def test_of_alike_roads_the_least(self):
        roads = ((0, 1, 2, 1, ()), (0, 1, 1, 1, ()), (0, 1, 1, 1, ()), (0, 1, 1, 1, ()))
        self.assertEqual(tree(((0, 0), roads))[2], [None, 1])
        self.assertEqual(tree(((0, 0), roads), down=((1, 0),))[2], [None, 2])

    def test_as_every_way_tried_tells(self):
        for _, plan, down in cases(4, 600):
            with self.subTest(plan=plan, down=down):
                self.assertEqual(tree(plan, down=down), plain_tree(plan, down))

    def test_the_roads_have_no_ring_and_lead_wherever_roads_that_are_up_do(self):
        for _, plan, down in cases(5, 200):
            roots, _, ways = tree(plan, down=down)
            kept = [way for way in ways if way is not None]
            with self.subTest(plan=plan, down=down):
                self.assertEqual(len(set(kept)), len(plan[0]) - len(set(roots)))
                self.assertEqual(len(set(kept)), len(kept))


class ToldTest(unittest.TestCase):
    def test_what_is_told_may_be_changed(self):
        first = tree(TRIANGLE)
        for part in first:
            part.clear()
            part.append("gone")
        self.assertEqual(tree(TRIANGLE), ([1, 1, 1], [3, 0, 1], [0, None, 2]))

    def test_asked_again_the_same_is_told(self):
        for _, plan, down in cases(6, 50):
            self.assertEqual(tree(plan, down=down), tree(plan, down=down))


class RefusedTest(unittest.TestCase):
    def test_down(self):
        for down in BAD_DOWNS:
            with self.subTest(down=down):
                self.assertRaises(BadRoad, tree, DOWN_PLAN, down=down)

    def test_down_at_its_bounds(self):
        for down in ((), ((0, 0),), ((1, 0), (1, 2)), ((2, 1), (2, 0)), tuple(members(DOWN_PLAN))):
            self.assertEqual(tree(DOWN_PLAN, down=down), plain_tree(DOWN_PLAN, down))

    def test_no_road_no_down(self):
        self.assertRaises(BadRoad, tree, ((0, 0), ()), down=((0, 0),))

    def test_down_is_handed_in_by_its_name(self):
        self.assertRaises(TypeError, tree, TRIANGLE, ())


if __name__ == "__main__":
    unittest.main()
