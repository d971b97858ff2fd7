"""A yard in the document's own words, slow and plain, that a Yard is compared with step by step.

It isn't told on which member a frame lies: that is not promised. It sees it in what the Yard tells of
what lies, and fails where that can't be.
"""

from plain import ends, members, plain_reach, plain_tree, up_roads


class Refused(Exception):
    """What the document refuses: the name of the error's class."""


def need(holds, word):
    if not holds:
        raise Refused(word)


def within(thing, least, last):
    return type(thing) is int and least <= thing <= last


class PlainYard:
    def __init__(self, plan, keep=8, most=12, guard=3):
        self.plan, self.keep, self.most, self.guard = plan, keep, most, guard
        self.now = 0
        self.places = {}
        self.out = set()
        self.known = [[] for _ in plan[0]]  # rows (lan, host, port, when)
        self.lines = {}  # (road, back): [[frame, member]] in the turn in which they came there
        self.heards = {host: [] for host in range(20)}
        self.floods = []  # the source of each frame that was flooded since the last tick
        self.sent = self.guarded = self.lost = 0

    # What is done.

    def plug(self, host, bridge, lan):
        need(within(host, 0, 19), "BadHost")
        need(within(bridge, 0, len(self.plan[0]) - 1), "BadBridge")
        need(within(lan, 0, 3), "BadLan")
        need(host not in self.places, "Plugged")
        self.places[host] = (bridge, lan)
        self.arrive(bridge, ("host", host), (None, host, None, lan))

    def unplug(self, host):
        self.need_plugged(host)
        bridge, lan = self.places.pop(host)
        self.lose(lambda frame: frame[1] == host)
        self.known[bridge] = [row for row in self.known[bridge] if row[:2] != (lan, host)]

    def need_plugged(self, host):
        need(within(host, 0, 19), "BadHost")
        need(host in self.places, "NotPlugged")

    def send(self, host, to=None, times=1):
        self.need_plugged(host)
        need(to is None or within(to, 0, 19) and to != host, "BadHost")
        need(within(times, 1, 9), "BadCount")
        told = []
        for _ in range(times):
            told.append(self.sent)
            self.sent += 1
            self.send_one(host, to, told[-1])
        return told

    def send_one(self, host, to, number):
        bridge, lan = self.places[host]
        if to is None or self.port(bridge, lan, to) is None:
            if self.floods.count(host) >= self.guard:
                self.guarded += 1
                return
            self.floods.append(host)
        self.arrive(bridge, ("host", host), (number, host, to, lan))

    def arrive(self, bridge, whence, frame):
        number, source, goal, lan = frame
        self.learn(bridge, lan, source, whence)
        port = self.port(bridge, lan, goal)
        if port is not None:
            onward = [port]
        else:
            onward = [("host", host) for host, place in self.places.items() if place == (bridge, lan)]
            kept = [way for way in self.tree()[2] if way is not None]
            carrying = [way for way in kept if lan in self.plan[1][way][4]]
            onward += [("road", way) for way in carrying if bridge in ends(self.plan, way)]
        for kind, which in onward:
            if (kind, which) == whence:
                continue
            if kind == "road":
                back = ends(self.plan, which)[1] == bridge
                self.lines.setdefault((which, back), []).append([frame, None])
            elif number is not None and goal in (None, which) and number not in self.heards[which]:
                self.heards[which].append(number)

    def learn(self, bridge, lan, host, port):
        rows = [row for row in self.fresh(bridge) if row[:2] != (lan, host)]
        if len(rows) + 1 > self.most:
            rows.remove(min(rows, key=lambda row: (row[3], row[0], row[1])))
        self.known[bridge] = rows + [(lan, host, port, self.now)]

    def fresh(self, bridge):
        return [row for row in self.known[bridge] if self.now - row[3] < self.keep]

    def port(self, bridge, lan, host):
        found = [row[2] for row in self.fresh(bridge) if row[:2] == (lan, host)]
        return found[0] if found else None

    def lose(self, which):
        for place, line in self.lines.items():
            self.lost += len([0 for frame, _ in line if which(frame) and frame[0] is not None])
            self.lines[place] = [row for row in line if not which(row[0])]

    def clear(self):
        self.lose(lambda frame: True)
        self.known = [[row for row in rows if row[2][0] != "road"] for rows in self.known]

    def need_member(self, road, member):
        need(within(road, 0, len(self.plan[1]) - 1), "BadRoad")
        need(within(member, 0, self.plan[1][road][3] - 1), "BadRoad")

    def cut(self, road, member):
        self.need_member(road, member)
        need((road, member) not in self.out, "IsDown")
        self.out.add((road, member))
        self.clear()

    def mend(self, road, member):
        self.need_member(road, member)
        need((road, member) in self.out, "IsUp")
        before = self.tree()
        self.out.remove((road, member))
        if self.tree() != before:
            self.clear()

    def tick(self):
        self.now += 1
        self.floods = []

    def carry(self, road, member, back=False):
        self.need_member(road, member)
        line = self.lines.get((road, back), [])
        for row in line:
            if row[1] == member:
                line.remove(row)
                self.arrive(ends(self.plan, road)[0 if back else 1], ("road", road), row[0])
                return True
        return False

    # What is told.

    def down(self):
        return sorted(self.out)

    def tree(self):
        return plain_tree(self.plan, tuple(self.out))

    def hosts(self):
        return sorted((host,) + place for host, place in self.places.items())

    def heard(self, host):
        return self.heards[host]

    def rows(self, bridge):
        return sorted(row[:3] for row in self.fresh(bridge))

    def counts(self):
        return self.sent, self.guarded, self.lost

    def reached(self, source, to=None):
        return plain_reach(self.plan, self.hosts(), source, to, tuple(self.out))

    # What lies.

    def settle(self, case, lying):
        """See on which members the frames of the last deed lie, and whether they may."""
        case.assertEqual(lying, sorted(lying))
        told = {}
        for road, member, back, many in lying:
            case.assertGreater(many, 0)
            case.assertNotIn((road, member), self.out)
            case.assertIn((road, member), members(self.plan))
            told.setdefault((road, back), {})[member] = many
        for place in set(told) | set(self.lines):
            self.settle_line(case, self.lines.get(place, []), told.get(place, {}))

    def settle_line(self, case, line, told):
        more = {member: many - len([0 for _, at in line if at == member]) for member, many in told.items()}
        case.assertTrue(all(at in told or at is None for _, at in line))
        new = [row for row in line if row[1] is None]
        found = {member: many for member, many in more.items() if many}
        if not new:
            case.assertEqual(found, {})
            return
        # What one deed lays on a road is of one talk, so all of it lies on one member.
        case.assertEqual(list(found.values()), [len(new)])
        for row in new:
            row[1] = list(found)[0]
            talk = row[0][1:]
            case.assertEqual({at for frame, at in line if frame[1:] == talk and at is not None}, set(found))

    def lies(self):
        return any(self.lines.values())

    def up(self):
        return up_roads(self.plan, tuple(self.out))
