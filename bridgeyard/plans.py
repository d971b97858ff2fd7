"""Plans: which can be, what is handed in beside them, and what is plain from them alone."""

from bridgeyard.errors import BadBridge, BadCount, BadHost, BadLan, BadPlan, BadRoad

MOST_BRIDGES = 6
MOST_ROADS = 8
LAST_RANK = 9
LAST_COST = 9
LAST_LAN = 3
LAST_HOST = 19
MOST_MEMBERS = 3


def is_number(thing, least, last):
    """Whether this is a number from least to last."""
    # Python takes True and False for integers; no plan does.
    if isinstance(thing, bool) or not isinstance(thing, int):
        return False
    return least <= thing <= last


def is_tuple(thing, many):
    """Whether this is a tuple of so many things."""
    return isinstance(thing, tuple) and len(thing) == many


def is_lan(thing):
    """Whether this is a lan."""
    return is_number(thing, 0, LAST_LAN)


def is_host(thing):
    """Whether this is a host."""
    return is_number(thing, 0, LAST_HOST)


def check_plan(plan):
    """Refuse what is no plan, with the first part and number that can't be."""
    if not is_tuple(plan, 2):
        raise BadPlan(-1, 0)
    ranks, roads = plan
    _check_ranks(ranks)
    _check_roads(roads, len(ranks))


def _check_ranks(ranks):
    if not isinstance(ranks, tuple) or not ranks:
        raise BadPlan(0, 0)
    for number, rank in enumerate(ranks):
        if number == MOST_BRIDGES or not is_number(rank, 0, LAST_RANK):
            raise BadPlan(0, number)


def _check_roads(roads, bridges):
    if not isinstance(roads, tuple):
        raise BadPlan(1, 0)
    for number, road in enumerate(roads):
        if number == MOST_ROADS or not _is_road(road, bridges):
            raise BadPlan(1, number)


def _is_road(road, bridges):
    if not is_tuple(road, 5):
        return False
    one, other, cost, members, lans = road
    # The other end comes first: only once it is a number can it bound the one.
    if not is_number(other, 1, bridges - 1) or not is_number(one, 0, other - 1):
        return False
    return is_number(cost, 1, LAST_COST) and is_number(members, 1, MOST_MEMBERS) and _are_lans(lans)


def _are_lans(lans):
    if not isinstance(lans, tuple) or not all([is_lan(lan) for lan in lans]):
        return False
    return list(lans) == sorted(set(lans))


def check_count(count, least, last):
    """Refuse what is no number from least to last."""
    if not is_number(count, least, last):
        raise BadCount(f"no number from {least} to {last}")


def check_host(host):
    """Refuse what is no host."""
    if not is_host(host):
        raise BadHost("no host")


def check_lan(lan):
    """Refuse what is no lan."""
    if not is_lan(lan):
        raise BadLan("no lan")


def check_bridge(plan, bridge):
    """Refuse what is no bridge of the plan."""
    if not is_number(bridge, 0, len(plan[0]) - 1):
        raise BadBridge("no bridge of the plan")


def check_road(plan, road):
    """Refuse what is no road of the plan."""
    if not is_number(road, 0, len(plan[1]) - 1):
        raise BadRoad("no road of the plan")


def check_member(plan, road, member):
    """Refuse what is no member of a road of the plan."""
    check_road(plan, road)
    if not is_number(member, 0, plan[1][road][3] - 1):
        raise BadRoad("no member of the road")


def check_down(plan, down):
    """Refuse what is no tuple of members of the plan's roads."""
    if not isinstance(down, tuple):
        raise BadRoad("no tuple of members")
    for pair in down:
        if not is_tuple(pair, 2):
            raise BadRoad("no road and member")
        road, member = pair
        check_member(plan, road, member)


def name_of(plan, bridge):
    """The name by which one bridge is lesser than another."""
    return plan[0][bridge], bridge


def members_up(plan, road, down):
    """The numbers of a road's members that are up, rising."""
    return [member for member in range(plan[1][road][3]) if (road, member) not in down]


def roads_up(plan, down):
    """The numbers of the roads of which a member is up, rising."""
    return [road for road in range(len(plan[1])) if members_up(plan, road, down)]


def other_end(road, bridge):
    """The bridge at the road's other end, None if the road has no end at this bridge."""
    one, other = road[:2]
    if bridge == one:
        return other
    if bridge == other:
        return one
    return None
