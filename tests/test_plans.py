"""What everything that is handed a plan refuses of it, ahead of whatever else is handed in."""

import unittest

from bridgeyard.errors import BadPlan
from bridgeyard.notes import written
from bridgeyard.speakers import Speaker
from bridgeyard.trees import reach, tree
from bridgeyard.yards import Yard
from wrong import RANKS, ROAD, bad_plans

ASKED = {
    "tree": lambda plan: tree(plan),
    "tree, down wrong too": lambda plan: tree(plan, down=None),
    "reach": lambda plan: reach(plan, [(0, 0, 0)], 0),
    "reach, all wrong too": lambda plan: reach(plan, None, None, to=True, down=None),
    "Speaker": lambda plan: Speaker(plan, 0),
    "Speaker, bridge wrong too": lambda plan: Speaker(plan, None),
    "Yard": lambda plan: Yard(plan),
    "Yard, all wrong too": lambda plan: Yard(plan, keep=0, most=None, guard=True),
    "written": lambda plan: written(plan),
}


class BadPlanTest(unittest.TestCase):
    def test_each_tells_the_first_that_cannot_be(self):
        for plan, part, number in bad_plans():
            for word, ask in ASKED.items():
                with self.subTest(word, plan=plan):
                    with self.assertRaises(BadPlan) as caught:
                        ask(plan)
                    self.assertEqual((caught.exception.part, caught.exception.number), (part, number))

    def test_a_plan_at_its_bounds_is_none_of_these(self):
        plans = (
            ((0,), ()),
            ((9,), ()),
            ((0, 9, 0, 9, 0, 9), ()),
            ((0,) * 6, (ROAD,) * 8),
            (RANKS, ((0, 1, 1, 1, ()), (0, 2, 9, 3, (0, 1, 2, 3)), (1, 2, 1, 3, (3,)))),
            ((0,) * 6, ((4, 5, 9, 3, (0, 3)), (0, 5, 1, 2, (1, 2)))),
        )
        for plan in plans:
            with self.subTest(plan=plan):
                self.assertEqual(len(tree(plan)[0]), len(plan[0]))
                self.assertEqual(reach(plan, [(0, 0, 0)], 0), [])
                self.assertEqual(Speaker(plan, 0).told(), (0, 0, None))
                self.assertEqual(Yard(plan).tree(), tree(plan))
                self.assertTrue(written(plan).startswith("bridges "))


if __name__ == "__main__":
    unittest.main()
