"""Points 6 and 7: the tree, found by letters."""

import copy
import random
import unittest

from bridgeyard.errors import BadBridge, BadPlan, BadRoad
from bridgeyard.speakers import Speaker
from bridgeyard.trees import tree
from plain import cases, ends, members, some_down, some_plan, up_roads
from wrong import BAD_DOWNS, DOWN_PLAN, NO_NUMBERS

ROUNDS = 16


class Yard:
    """A Speaker for each bridge of a plan, and all letters that they ever told."""

    def __init__(self, plan):
        self.plan = plan
        self.speakers = [Speaker(plan, bridge) for bridge in range(len(plan[0]))]
        self.old = []

    def letters(self, down):
        """All letters told now: (the bridge at the other end, road, letter)."""
        told = []
        for bridge, speaker in enumerate(self.speakers):
            for road, letter in speaker.letters(down=down):
                told.append((sum(ends(self.plan, road)) - bridge, road, letter))
        self.old += told
        return told

    def hear(self, told):
        for bridge, road, letter in told:
            self.speakers[bridge].hear(road, letter)

    def turn(self, down):
        for speaker in self.speakers:
            speaker.turn(down=down)

    def rounds(self, down, many=ROUNDS, chance=None):
        for _ in range(many):
            told = self.letters(down)
            if chance is not None:
                chance.shuffle(told)
            self.hear(told)
            self.turn(down)

    def told(self):
        return tuple([list(column) for column in zip(*[speaker.told() for speaker in self.speakers])])

    def stray(self, chance, down):
        """Something that is no round: letters late, again, by some roads alone, astray or never; turns at odds."""
        deed = chance.randrange(5)
        told = self.letters(down)
        if deed == 0:
            self.hear([row for row in told if chance.random() < 0.5])
        elif deed == 1 and self.old:
            self.hear([chance.choice(self.old) for _ in range(chance.randint(1, 20))])
        elif deed == 2 and self.old:
            letters = [chance.choice(self.old)[2] for _ in range(10)]
            for letter in letters:
                road = chance.randrange(len(self.plan[1]))
                self.speakers[chance.choice(ends(self.plan, road))].hear(road, letter)
        elif deed == 3:
            chance.choice(self.speakers).turn(down=down)
        else:
            self.hear(told)
            self.turn(down)


class SixteenRoundsTest(unittest.TestCase):
    def assert_tree(self, yard, down):
        self.assertEqual(yard.told(), tree(yard.plan, down=down))

    def test_from_the_start(self):
        for chance, plan, down in cases(11, 400):
            yard = Yard(plan)
            yard.rounds(down, chance=chance)
            with self.subTest(plan=plan, down=down):
                self.assert_tree(yard, down)

    def test_left_out_none_is_down(self):
        for _, plan, _ in cases(12, 60):
            yard = Yard(plan)
            for _ in range(ROUNDS):
                for bridge, speaker in enumerate(yard.speakers):
                    for road, letter in speaker.letters():
                        yard.speakers[sum(ends(plan, road)) - bridge].hear(road, letter)
                for speaker in yard.speakers:
                    speaker.turn()
            with self.subTest(plan=plan):
                self.assert_tree(yard, ())

    def test_a_line_of_six_from_its_far_end(self):
        for ranks in ((0,) * 6, (9, 9, 9, 9, 9, 0), (9, 9, 0, 9, 9, 9)):
            plan = (ranks, tuple((bridge, bridge + 1, 9, 1, ()) for bridge in range(5)))
            yard = Yard(plan)
            yard.rounds(())
            self.assert_tree(yard, ())

    def test_behind_changes(self):
        for chance, plan, down in cases(13, 150):
            yard = Yard(plan)
            for _ in range(4):
                yard.rounds(down, chance=chance)
                with self.subTest(plan=plan, down=down):
                    self.assert_tree(yard, down)
                down = some_down(chance, plan)
                yard.rounds(down, many=chance.randint(0, 3), chance=chance)
                down = some_down(chance, plan)

    def test_behind_stray_letters(self):
        for chance, plan, down in cases(14, 250):
            yard = Yard(plan)
            for _ in range(3):
                for _ in range(chance.randint(1, 25)):
                    yard.stray(chance, down)
                    if chance.random() < 0.3:
                        down = some_down(chance, plan)
                yard.rounds(down, chance=chance)
                with self.subTest(plan=plan, down=down):
                    self.assert_tree(yard, down)

    def test_a_root_that_was_cut_off_is_forgotten(self):
        # The ring 1 - 2 - 3 - 4 - 5 might tell itself of the lost root for ever, at growing sums.
        ring = ((1, 2, 1, 1, ()), (2, 3, 1, 1, ()), (3, 4, 1, 1, ()), (4, 5, 1, 1, ()), (1, 5, 1, 1, ()))
        plan = ((0, 9, 9, 9, 9, 9), ((0, 1, 1, 2, ()),) + ring)
        yard = Yard(plan)
        yard.rounds(())
        self.assert_tree(yard, ())
        yard.rounds(((0, 0), (0, 1)))
        self.assert_tree(yard, ((0, 0), (0, 1)))
        self.assertEqual(yard.speakers[5].told(), (1, 1, 5))

    def test_a_sum_that_grew_is_made_good(self):
        plan = ((0, 9, 9), ((0, 1, 1, 1, ()), (1, 2, 1, 1, ()), (0, 2, 9, 1, ())))
        yard = Yard(plan)
        yard.rounds(())
        self.assertEqual(yard.told(), ([0, 0, 0], [0, 1, 2], [None, 0, 1]))
        yard.rounds(((0, 0),))
        self.assertEqual(yard.told(), ([0, 0, 0], [0, 10, 9], [None, 1, 2]))

    def test_a_late_letter_in_each_turn_ahead(self):
        plan = ((0, 1, 2), ((0, 1, 9, 1, ()), (1, 2, 9, 1, ()), (0, 2, 9, 1, ())))
        yard = Yard(plan)
        yard.rounds(())
        late = [row for row in yard.old if row[0] == 2]
        down = ((0, 0), (2, 0))
        for _ in range(20):
            yard.hear(yard.letters(down) + late)
            yard.turn(down)
        yard.hear(late)
        yard.rounds(down)
        self.assert_tree(yard, down)
        self.assertEqual(yard.told(), ([0, 1, 1], [0, 0, 9], [None, None, 1]))

    def test_letters_of_speakers_of_another_yard(self):
        for chance, plan, down in cases(15, 100):
            yard, elder = Yard(plan), Yard(plan)
            elder.rounds((), chance=chance)
            yard.old = elder.old
            for _ in range(10):
                yard.stray(chance, down)
            yard.rounds(down, chance=chance)
            with self.subTest(plan=plan, down=down):
                self.assert_tree(yard, down)


class TellingTest(unittest.TestCase):
    def test_at_first_each_is_a_root(self):
        for _, plan, _ in cases(16, 40):
            for bridge in range(len(plan[0])):
                self.assertEqual(Speaker(plan, bridge).told(), (bridge, 0, None))

    def test_what_no_letter_told_is_not_known(self):
        speaker = Speaker(DOWN_PLAN, 0)
        for _ in range(ROUNDS):
            speaker.letters()
            speaker.turn()
        self.assertEqual(speaker.told(), (0, 0, None))

    def test_a_letter_tells_of_the_next_bridge(self):
        plan = ((1, 0), ((0, 1, 7, 1, ()),))
        speaker = Speaker(plan, 0)
        speaker.hear(0, Speaker(plan, 1).letters()[0][1])
        speaker.turn()
        self.assertEqual(speaker.told(), (1, 7, 0))

    def test_letters_are_tuples_for_roads_that_are_up(self):
        for _, plan, down in cases(17, 100):
            up = up_roads(plan, down)
            for bridge in range(len(plan[0])):
                told = Speaker(plan, bridge).letters(down=down)
                self.assertIs(type(told), list)
                self.assertEqual([road for road, _ in told], [road for road in up if bridge in ends(plan, road)])
                for row in told:
                    self.assertEqual((type(row), type(row[1])), (tuple, tuple))

    def test_hear_and_turn_tell_none(self):
        speaker = Speaker(DOWN_PLAN, 0)
        self.assertIsNone(speaker.hear(0, Speaker(DOWN_PLAN, 1).letters()[0][1]))
        self.assertIsNone(speaker.turn())
        self.assertIs(type(speaker.told()), tuple)

    def test_asked_again_the_same_is_told(self):
        for chance, plan, down in cases(18, 40):
            yard = Yard(plan)
            yard.stray(chance, down)
            for speaker in yard.speakers:
                self.assertEqual(speaker.letters(down=down), speaker.letters(down=down))
                self.assertEqual(speaker.told(), speaker.told())

    def test_letters_told_may_be_changed(self):
        yard = Yard(DOWN_PLAN)
        yard.rounds(())
        for speaker in yard.speakers:
            first = speaker.letters()
            kept = list(first)
            first.clear()
            self.assertEqual(speaker.letters(), kept)

    def test_speakers_of_one_plan_are_apart(self):
        yard = Yard(DOWN_PLAN)
        lone = Speaker(DOWN_PLAN, 0)
        yard.rounds(())
        self.assertEqual(lone.told(), (0, 0, None))


class RefusedTest(unittest.TestCase):
    def test_no_bridge(self):
        for bridge in NO_NUMBERS + (-1, 3, 6, 99, -99):
            with self.subTest(bridge=bridge):
                self.assertRaises(BadBridge, Speaker, DOWN_PLAN, bridge)
        self.assertRaises(BadBridge, Speaker, ((0,), ()), 1)
        self.assertRaises(BadPlan, Speaker, None, None)

    def test_each_bridge(self):
        for bridge in range(6):
            self.assertEqual(Speaker(((3,) * 6, ()), bridge).told(), (bridge, 0, None))

    def settled(self):
        yard = Yard(DOWN_PLAN)
        yard.rounds(())
        return yard

    def test_a_letter_by_no_road(self):
        yard = self.settled()
        speaker = yard.speakers[0]
        letter = speaker.letters()[0][1]
        for road in NO_NUMBERS + (-1, 3, 8, 99, -99):
            with self.subTest(road=road):
                self.assertRaises(BadRoad, speaker.hear, road, letter)

    def test_a_letter_by_a_road_of_others(self):
        yard = self.settled()
        letter = yard.speakers[1].letters()[0][1]
        for bridge, road in ((0, 2), (1, 1), (2, 0)):
            self.assertRaises(BadRoad, yard.speakers[bridge].hear, road, letter)
        self.assertRaises(BadRoad, Speaker(((0,), ()), 0).hear, 0, letter)

    def test_a_letter_by_each_of_its_roads(self):
        letter = Speaker(DOWN_PLAN, 1).letters()[0][1]
        for bridge, roads in enumerate(((0, 1), (0, 2), (1, 2))):
            for road in roads:
                self.assertIsNone(Speaker(DOWN_PLAN, bridge).hear(road, letter))

    def test_down(self):
        speaker = Speaker(DOWN_PLAN, 1)
        for down in BAD_DOWNS:
            with self.subTest(down=down):
                self.assertRaises(BadRoad, speaker.letters, down=down)
                self.assertRaises(BadRoad, speaker.turn, down=down)

    def test_members_of_roads_elsewhere_may_be_down(self):
        speaker = Speaker(DOWN_PLAN, 0)
        self.assertEqual([road for road, _ in speaker.letters(down=((2, 0), (2, 1)))], [0, 1])
        self.assertIsNone(speaker.turn(down=tuple(members(DOWN_PLAN))))

    def test_what_is_refused_changes_nothing(self):
        plan = ((1, 0), ((0, 1, 7, 1, ()),))
        speaker = Speaker(plan, 0)
        speaker.hear(0, Speaker(plan, 1).letters()[0][1])
        before = (speaker.told(), speaker.letters())
        self.assertRaises(BadRoad, speaker.turn, down=((1, 0),))
        self.assertRaises(BadRoad, speaker.turn, down=None)
        self.assertRaises(BadRoad, speaker.hear, 1, ())
        self.assertRaises(BadRoad, speaker.letters, down=((0, 1),))
        self.assertEqual((speaker.told(), speaker.letters()), before)
        speaker.turn()
        self.assertEqual(speaker.told(), (1, 7, 0))
        self.assertRaises(BadRoad, speaker.turn, down=((0, 1),))
        self.assertEqual(speaker.told(), (1, 7, 0))

    def test_down_is_handed_in_by_its_name(self):
        speaker = Speaker(DOWN_PLAN, 0)
        self.assertRaises(TypeError, speaker.letters, ())
        self.assertRaises(TypeError, speaker.turn, ())


class LongRunTest(unittest.TestCase):
    def test_many_changes_of_one_yard(self):
        chance = random.Random(19)
        for _ in range(10):
            plan = some_plan(chance)
            before = copy.deepcopy(plan)
            yard = Yard(plan)
            for _ in range(30):
                down = some_down(chance, plan)
                for _ in range(chance.randint(0, 4)):
                    yard.stray(chance, some_down(chance, plan))
                yard.rounds(down, chance=chance)
                self.assertEqual(yard.told(), tree(plan, down=down))
            self.assertEqual(plan, before)


if __name__ == "__main__":
    unittest.main()
