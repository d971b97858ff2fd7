"""Things that are no numbers, and plans that can't be."""

NO_NUMBERS = (None, True, False, "", "0", "one", (), (0,), [], [0])

# Each plan with the part and the number of the first that can't be.
RANKS = (0, 1, 2)
ROAD = (0, 1, 1, 1, (0,))


def road_with(place, thing):
    return ROAD[:place] + (thing,) + ROAD[place + 1:]


def bad_roads():
    """Rows in a road's place that can't be, in a plan of three bridges."""
    rows = [thing for thing in NO_NUMBERS] + [0, 7, -1, list(ROAD), ROAD[:4], ROAD + (0,), ROAD[1:]]
    for place in range(4):
        rows += [road_with(place, thing) for thing in NO_NUMBERS]
    rows += [road_with(0, one) for one in (-1, 1, 2, 3, 99, -99)]
    rows += [road_with(1, other) for other in (0, 3, 4, -1, 99, -99)]
    rows += [(1, 0, 1, 1, ()), (2, 2, 1, 1, ()), (2, 1, 1, 1, ()), (-1, 0, 1, 1, ())]
    rows += [road_with(2, cost) for cost in (0, 10, -1, 100, -100)]
    rows += [road_with(3, many) for many in (0, 4, -1, 100, -100)]
    rows += [road_with(4, lans) for lans in (None, True, 0, 3, "", "01", [], [0, 1])]
    rows += [road_with(4, (lan,)) for lan in NO_NUMBERS + (-1, 4, 99, -99)]
    rows += [road_with(4, lans) for lans in ((0, 0), (1, 0), (0, 2, 1), (3, 2, 1, 0), (0, 1, 2, 3, 4), (0, 1, 1))]
    rows += [road_with(4, lans) for lans in ((False, True), (0, True), (-1, 0), (0, 1, 2, 3, 3))]
    return rows


def bad_plans():
    """(plan, part, number) for plans that can't be."""
    rows = [(thing, -1, 0) for thing in NO_NUMBERS + (0, 1, -5)]
    rows += [(thing, -1, 0) for thing in ((RANKS,), (RANKS, (), ()), [RANKS, ()], ((), (), ()), "ab", ["a", "b"])]
    rows += [((ranks, ()), 0, 0) for ranks in (None, True, False, 0, 3, "", "0", [], [0, 1], ())]
    for thing in NO_NUMBERS + (-1, 10, 99, -99):
        rows += [(((thing,), ()), 0, 0), (((0, 9, thing), ()), 0, 2), (((0,) * 5 + (thing,), ()), 0, 5)]
        rows.append((((0, thing, 0, thing), ()), 0, 1))
    rows += [(((0,) * 7, ()), 0, 6), (((9,) * 40, ()), 0, 6), (((0,) * 6 + (None,), ()), 0, 6)]
    rows += [(((0, 0, 0, 10, 0, 0, 0), ()), 0, 3), (((0,) * 6 + (10, -1), ()), 0, 6)]
    rows += [((RANKS, roads), 1, 0) for roads in (None, True, False, 0, 3, "", "0", [], [ROAD], "abcde", ROAD)]
    for road in bad_roads():
        rows += [((RANKS, (road,)), 1, 0), ((RANKS, (ROAD, ROAD, road, None)), 1, 2)]
        rows += [((RANKS, (ROAD,) * 7 + (road,)), 1, 7), ((RANKS, (ROAD, road) + (ROAD,) * 7), 1, 1)]
    rows += [((RANKS, (ROAD,) * 9), 1, 8), ((RANKS, (ROAD,) * 30), 1, 8), ((RANKS, (ROAD,) * 8 + (None,)), 1, 8)]
    rows += [(((0,), (ROAD,)), 1, 0), (((0, 0), (ROAD, (0, 2, 1, 1, ()))), 1, 1)]
    rows += [(((0, 10), None), 0, 1), (((), None), 0, 0), (((0,) * 7, (None,)), 0, 6), ((None, None), 0, 0)]
    return rows


# What is handed in as `down` for this plan, and can't be.
DOWN_PLAN = ((3, 1, 2), ((0, 1, 1, 1, (0,)), (0, 2, 9, 3, ()), (1, 2, 2, 2, (0, 1, 2, 3))))
BAD_DOWNS = (
    tuple(thing for thing in NO_NUMBERS if thing != ())
    + (0, 1, -1, "ab", [(0, 0)], (0, 0), ((0,),), ((0, 0, 0),), ([0, 0],), ((),), ("ab",), (None,), (True,))
    + tuple(((thing, 0),) for thing in NO_NUMBERS + (3, -1, 8, 99, -99))
    + tuple(((0, thing),) for thing in NO_NUMBERS + (1, -1, 3, 99))
    + (((1, 3),), ((2, 2),), ((1, -1),), ((0, 0), (1, 2), (2, 2)), ((1, 0), None), ((0, 0), [1, 0]))
)
