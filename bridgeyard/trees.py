"""The tree that is left of a plan's roads, and whom a frame reaches by it."""

from bridgeyard.errors import BadHost
from bridgeyard.plans import check_bridge, check_down, check_host, check_lan, check_plan
from bridgeyard.plans import is_host, is_tuple, name_of, other_end, roads_up


def tree(plan, *, down=()):
    """For each bridge its root, how far that is, and the road by which it goes there."""
    check_plan(plan)
    check_down(plan, down)
    up = roads_up(plan, down)
    bests = _nearest(plan, up)
    roots = [root[1] for root, far in bests]
    fars = [far for root, far in bests]
    ways = [_way(plan, up, fars, bridge) for bridge in range(len(fars))]
    return roots, fars, ways


def _nearest(plan, up):
    """For each bridge its root's name and the least sum of costs to it."""
    ranks, roads = plan
    bests = [(name_of(plan, bridge), 0) for bridge in range(len(ranks))]
    # No least way has more roads than there are bridges, so as many turns are enough.
    for _ in ranks:
        for number in up:
            one, other, cost = roads[number][:3]
            bests[one] = min(bests[one], _farther(bests[other], cost))
            bests[other] = min(bests[other], _farther(bests[one], cost))
    return bests


def _farther(best, cost):
    root, far = best
    return root, far + cost


def _way(plan, up, fars, bridge):
    """The road by which the bridge goes to its root, None for a root."""
    choices = []
    for number in up:
        road = plan[1][number]
        end = other_end(road, bridge)
        if end is not None and fars[end] + road[2] == fars[bridge]:
            choices.append((name_of(plan, end), number))
    if not choices:
        return None
    return min(choices)[1]


def reach(plan, hosts, source, *, to=None, down=()):
    """The hosts that hear a frame of the source, rising."""
    check_plan(plan)
    places = _places(plan, hosts)
    if not is_host(source) or source not in places:
        raise BadHost("the source is none of the hosts")
    if to is not None:
        check_host(to)
    bridge, lan = places[source]
    near = _joined(plan, tree(plan, down=down)[2], bridge, lan)
    heard = [host for host in sorted(places) if _hears(places[host], near, lan)]
    return [host for host in heard if host != source and to in (None, host)]


def _places(plan, hosts):
    """The bridge and lan of each host; what can't be a list of hosts is refused."""
    if not isinstance(hosts, list):
        raise BadHost("no list of hosts")
    places = {}
    for row in hosts:
        if not is_tuple(row, 3):
            raise BadHost("no host, bridge and lan")
        host, bridge, lan = row
        if not is_host(host) or host in places:
            raise BadHost("no host, or one told twice")
        check_bridge(plan, bridge)
        check_lan(lan)
        places[host] = (bridge, lan)
    return places


def _hears(place, near, lan):
    return place[0] in near and place[1] == lan


def _joined(plan, ways, bridge, lan):
    """The bridges to which the tree's roads that carry the lan lead from this one."""
    ranks, roads = plan
    carrying = [roads[way] for way in ways if way is not None and lan in roads[way][4]]
    near = {bridge: True}
    # Each turn goes on by a road at least, until no bridge is left.
    for _ in ranks:
        for road in carrying:
            one, other = road[:2]
            if one in near or other in near:
                near[one] = near[other] = True
    return near
