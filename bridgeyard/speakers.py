"""The bridges' own way to the tree: by letters, each knowing only its own roads and what it hears."""

from bridgeyard.errors import BadRoad
from bridgeyard.plans import check_bridge, check_down, check_plan, check_road
from bridgeyard.plans import name_of, other_end, roads_up


class Speaker:
    """What a bridge finds of the tree by letters.

    It knows, for each number of roads from none on, the best that a way of at most so many
    leads to: the name of a root, and how far it is. That of no road is the bridge itself, that of
    any more is made anew in each turn of what the letters tell of one fewer. So an old letter,
    however wrong, is made good one number further in each round, and none is left behind
    as many rounds as a way can have roads.
    """

    def __init__(self, plan, bridge):
        check_plan(plan)
        check_bridge(plan, bridge)
        self._plan = plan
        self._bridge = bridge
        self._heard = {}
        self._bests = [(name_of(plan, bridge), 0)] * len(plan[0])
        self._way = None

    def letters(self, *, down=()):
        """A letter for each road here that is up, with its road, rising."""
        check_down(self._plan, down)
        letter = tuple(self._bests)
        return [(road, letter) for road in self._roads_up(down)]

    def hear(self, road, letter):
        """Take a letter that came by a road, in the place of an elder one by it."""
        check_road(self._plan, road)
        if other_end(self._plan[1][road], self._bridge) is None:
            raise BadRoad("no road of this bridge")
        self._heard[road] = letter

    def turn(self, *, down=()):
        """End a round: find out anew what the letters heard by roads that are up lead to."""
        check_down(self._plan, down)
        up = self._roads_up(down)
        # A letter may be lost, so the last one by a road holds on, but not beyond that road.
        self._heard = {road: self._heard[road] for road in up if road in self._heard}
        bests = self._bests[:1]
        for fewer in range(len(self._bests) - 1):
            root, far, _, self._way = min(self._choices(fewer))
            bests.append((root, far))
        self._bests = bests

    def told(self):
        """The root, how far it is and the road that leads there, as far as is known here."""
        root, far = self._bests[-1]
        return root[1], far, self._way

    def _roads_up(self, down):
        roads = self._plan[1]
        return [road for road in roads_up(self._plan, down) if other_end(roads[road], self._bridge) is not None]

    def _choices(self, fewer):
        """Where ways by one road and so many more lead: (root, how far, next bridge, road), names for bridges."""
        own = name_of(self._plan, self._bridge)
        choices = [(own, 0, own, None)]
        for number, letter in self._heard.items():
            road = self._plan[1][number]
            root, far = letter[fewer]
            end = other_end(road, self._bridge)
            choices.append((root, far + road[2], name_of(self._plan, end), number))
        return choices
