"""The document's own words, done by trying every way, and plans to try them on."""

import random


def name(plan, bridge):
    return (plan[0][bridge], bridge)


def up_roads(plan, down):
    return [
        number
        for number, road in enumerate(plan[1])
        if {(number, member) for member in range(road[3])} - set(down)
    ]


def simple_ways(plan, up, bridge):
    """Every way without a ring from a bridge: (its last bridge, its sum, its roads)."""
    done = []
    begun = [((bridge,), 0, ())]
    while begun:
        bridges, total, roads = begun.pop()
        done.append((bridges[-1], total, roads))
        for number in up:
            one, other, cost = plan[1][number][:3]
            for here, there in ((one, other), (other, one)):
                if here == bridges[-1] and there not in bridges:
                    begun.append((bridges + (there,), total + cost, roads + (number,)))
    return done


def ends(plan, number):
    return plan[1][number][:2]


def plain_place(plan, up, bridge):
    """(root, far, way) of one bridge."""
    ways = simple_ways(plan, up, bridge)
    root = min((end for end, _, _ in ways), key=lambda end: name(plan, end))
    far = min(total for end, total, _ in ways if end == root)
    if root == bridge:
        return root, 0, None
    firsts = [roads[0] for end, total, roads in ways if end == root and total == far]
    way = min(firsts, key=lambda road: (name(plan, sum(ends(plan, road)) - bridge), road))
    return root, far, way


def plain_tree(plan, down=()):
    up = up_roads(plan, down)
    places = [plain_place(plan, up, bridge) for bridge in range(len(plan[0]))]
    return tuple([list(column) for column in zip(*places)])


def plain_reach(plan, hosts, source, to=None, down=()):
    kept = [way for way in plain_tree(plan, down)[2] if way is not None]
    places = {host: (bridge, lan) for host, bridge, lan in hosts}
    bridge, lan = places[source]
    carrying = [way for way in kept if lan in plan[1][way][4]]
    near = {end for end, _, _ in simple_ways(plan, carrying, bridge)}
    heard = {host for host, place in places.items() if place[1] == lan and place[0] in near}
    heard.discard(source)
    return sorted(heard if to is None else heard & {to})


def some_plan(chance):
    bridges = chance.randint(1, 6)
    ranks = tuple(chance.choice((0, 1, 1, 2, 9)) for _ in range(bridges))
    most = 0 if bridges == 1 else chance.randint(0, 8)
    costs = chance.choice(((1,), (1, 2), (1, 9), tuple(range(1, 10))))
    roads = []
    for _ in range(most):
        one, other = sorted(chance.sample(range(bridges), 2))
        lans = tuple(sorted(chance.sample(range(4), chance.choice((0, 1, 2, 3, 4, 4)))))
        roads.append((one, other, chance.choice(costs), chance.randint(1, 3), lans))
    return ranks, tuple(roads)


def members(plan):
    return [(road, member) for road in range(len(plan[1])) for member in range(plan[1][road][3])]


def some_down(chance, plan):
    """None, some, most or all members, in any turn."""
    all_of_them = members(plan)
    share = chance.choice((0, 0.2, 0.5, 0.8, 1))
    down = [pair for pair in all_of_them if chance.random() < share]
    chance.shuffle(down)
    return tuple(down)


def some_hosts(chance, plan):
    numbers = chance.sample(range(20), chance.randint(1, 12))
    lans = chance.choice(((0,), (1, 2), (0, 1, 2, 3)))
    return [(host, chance.randrange(len(plan[0])), chance.choice(lans)) for host in numbers]


def cases(seed, many):
    """So many (chance, plan, down), the same for the same seed."""
    chance = random.Random(seed)
    for _ in range(many):
        plan = some_plan(chance)
        yield chance, plan, some_down(chance, plan)
