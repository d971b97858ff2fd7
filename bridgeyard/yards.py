"""Yards: hosts plugged at bridges, their frames on the tree's roads, and all that is done to these."""

from bridgeyard.errors import BadDeed, BadHost, IsDown, IsUp, NotPlugged, Plugged, YardError
from bridgeyard.loads import Load
from bridgeyard.plans import check_bridge, check_count, check_host, check_lan, check_member, check_plan
from bridgeyard.plans import members_up, other_end
from bridgeyard.tables import KEEP, MOST_ROWS, Table
from bridgeyard.trees import tree

GUARD = 3
MOST_GUARD = 9
MOST_TIMES = 9

# The first parts of ports.
HOST = "host"
ROAD = "road"


class Yard:
    """A plan with hosts at its bridges, and the frames between them: (number, source, goal, lan).

    A greeting has None for its number, a frame to all None for its goal.
    """

    def __init__(self, plan, *, keep=KEEP, most=MOST_ROWS, guard=GUARD):
        check_plan(plan)
        self._plan = plan
        self._tables = [Table(keep=keep, most=most) for _ in plan[0]]
        check_count(guard, 0, MOST_GUARD)
        self._guard = guard
        self._now = 0
        self._down = {}
        self._load = Load()
        # For each host that is plugged its (bridge, lan); for each that ever heard the numbers of that.
        self._places = {}
        self._heard = {}
        # How many frames of each host were flooded since the last tick.
        self._flooded = {}
        self._sent = 0
        self._guarded = 0
        self._lost = 0
        self._log = []
        self._under_way = False

    def plug(self, host, bridge, lan):
        """Plug a host at a bridge in a lan; it greets all."""
        check_host(host)
        check_bridge(self._plan, bridge)
        check_lan(lan)
        if host in self._places:
            raise Plugged("the host is plugged already")
        self._places[host] = (bridge, lan)
        self._come(bridge, (HOST, host), (None, host, None, lan))

    def unplug(self, host):
        """Take a host off; what it sent and lies on roads is lost."""
        self._check_plugged(host)
        bridge, lan = self._places.pop(host)
        self._lost += self._load.lose_of(host)
        self._tables[bridge].strike(lan, host)

    def send(self, host, *, to=None, times=1):
        """Send frames of a host to another one, or to all; the list of their numbers."""
        self._check_plugged(host)
        if to is not None:
            check_host(to)
        if to == host:
            raise BadHost("a host sends nothing to itself")
        check_count(times, 1, MOST_TIMES)
        first = self._sent
        for _ in range(times):
            self._send_one(host, to)
        return list(range(first, self._sent))

    def cut(self, road, member):
        """Take a member down; all that lies on roads is lost."""
        check_member(self._plan, road, member)
        if (road, member) in self._down:
            raise IsDown("the member is down already")
        self._down[(road, member)] = True
        self._clear_roads()

    def mend(self, road, member):
        """Take a member up; if the tree is another one by that, all that lies on roads is lost."""
        check_member(self._plan, road, member)
        if (road, member) not in self._down:
            raise IsUp("the member is up already")
        before = self.tree()
        del self._down[(road, member)]
        if self.tree() != before:
            self._clear_roads()

    def tick(self):
        """Let the time go on by one."""
        self._now += 1
        self._flooded = {}

    def carry(self, road, member, *, back=False):
        """Let the first frame on a member come to the other end; False if none lies there that way."""
        check_member(self._plan, road, member)
        frame = self._load.take(road, member, back)
        if frame is None:
            return False
        one, other = self._plan[1][road][:2]
        self._come(one if back else other, (ROAD, road), frame)
        return True

    def rest(self):
        """Carry all until none lies; how many that were."""
        many = 0
        while lying := self.lying():
            road, member, back, _ = lying[0]
            self.carry(road, member, back=back)
            many += 1
        return many

    def heard(self, host):
        """The numbers that a host heard, in turn."""
        check_host(host)
        return list(self._heard.get(host, []))

    def rows(self, bridge):
        """The rows that a bridge knows."""
        check_bridge(self._plan, bridge)
        return self._tables[bridge].rows(self._now)

    def hosts(self):
        """(host, bridge, lan) of all hosts that are plugged, rising."""
        return [(host, *self._places[host]) for host in sorted(self._places)]

    def lying(self):
        """(road, member, back, how many) where frames lie, rising."""
        return self._load.rows()

    def down(self):
        """The members that are down, rising."""
        return sorted(self._down)

    def tree(self):
        """What is told of the tree with these members down."""
        return tree(self._plan, down=tuple(self.down()))

    def counts(self):
        """How many frames were given numbers, how many were guarded, how often one was lost."""
        return self._sent, self._guarded, self._lost

    def together(self, deeds):
        """Do a list of deeds in turn; what each tells."""
        told = []
        self._under_way = True
        self._log.append("begin")
        try:
            for number, deed in enumerate(deeds):
                told.append(self._tell(number, deed))
                self._log.append(deed[0])
        finally:
            self._log.append("end")
            self._under_way = False
        return told

    def log(self):
        """The words of all that together was told."""
        return list(self._log)

    def is_open(self):
        """Whether together isn't under way."""
        return not self._under_way

    def _check_plugged(self, host):
        check_host(host)
        if host not in self._places:
            raise NotPlugged("the host is not plugged")

    def _tell(self, number, deed):
        """What the deed with this number tells."""
        try:
            return self._do(deed)
        except YardError as why:
            raise BadDeed(number) from why

    def _do(self, deed):
        # A list would do for the patterns below, but is no deed.
        if not isinstance(deed, tuple):
            raise YardError("no tuple")
        match deed:
            case ("plug", host, bridge, lan):
                return self.plug(host, bridge, lan)
            case ("unplug", host):
                return self.unplug(host)
            case ("send", host, to):
                return self.send(host, to=to)
            case ("cut", road, member):
                return self.cut(road, member)
            case ("mend", road, member):
                return self.mend(road, member)
            case ("carry", road, member, back) if isinstance(back, bool):
                return self.carry(road, member, back=back)
            case ("tick",):
                return self.tick()
            case ("rest",):
                return self.rest()
            case _:
                raise YardError("no such deed")

    def _send_one(self, host, to):
        """Give a frame its number, and let it come to its host's bridge, unless it is guarded."""
        bridge, lan = self._places[host]
        number = self._sent
        self._sent += 1
        if self._find(bridge, lan, to) is None:
            flooded = self._flooded.get(host, 0)
            if flooded >= self._guard:
                self._guarded += 1
                return
            self._flooded[host] = flooded + 1
        self._come(bridge, (HOST, host), (number, host, to, lan))

    def _find(self, bridge, lan, goal):
        """The port by which a bridge knows a goal, None for all."""
        if goal is None:
            return None
        return self._tables[bridge].find(self._now, lan, goal)

    def _come(self, bridge, whence, frame):
        """Let a bridge learn from a frame that comes by a port, and pass the frame on."""
        source, goal, lan = frame[1:]
        self._tables[bridge].learn(self._now, lan, source, whence)
        port = self._find(bridge, lan, goal)
        ports = self._ports(bridge, lan) if port is None else [port]
        for port_on in ports:
            if port_on != whence:
                self._go(bridge, port_on, frame)

    def _ports(self, bridge, lan):
        """The ports by which a bridge floods a lan."""
        hosts = [(HOST, host) for host in self._places if self._places[host] == (bridge, lan)]
        return hosts + [(ROAD, road) for road in self.tree()[2] if self._leads(road, bridge, lan)]

    def _leads(self, way, bridge, lan):
        """Whether a bridge's way is a road at this bridge that carries the lan."""
        if way is None:
            return False
        road = self._plan[1][way]
        return lan in road[4] and other_end(road, bridge) is not None

    def _go(self, bridge, port, frame):
        """Let a frame go from a bridge by a port."""
        kind, number = port
        if kind == HOST:
            self._hear(number, frame)
        else:
            back = bridge == self._plan[1][number][1]
            self._load.put(number, back, members_up(self._plan, number, self._down), frame)

    def _hear(self, host, frame):
        number, goal = frame[0], frame[2]
        heard = self._heard.setdefault(host, [])
        # A host that was plugged elsewhere may have heard this frame there.
        if number is not None and goal in (None, host) and number not in heard:
            heard.append(number)

    def _clear_roads(self):
        """Lose all that lies on roads, and let all bridges forget what they learnt by roads."""
        self._lost += self._load.lose_all()
        for table in self._tables:
            table.forget(ROAD)
