"""A small plan for Yards, Yards of it, and all that a Yard tells."""

from bridgeyard.yards import Yard

# A line 0 - 1 - 2 of single members; lan 3 is carried by the first road alone.
LINE = ((0, 0, 0), ((0, 1, 1, 1, (0, 1, 3)), (1, 2, 1, 1, (0, 1))))


def line_yard(*hosts, **more):
    """A Yard of the line with hosts (host, bridge, lan), where nothing lies."""
    yard = Yard(LINE, **more)
    for row in hosts:
        yard.plug(*row)
    yard.rest()
    return yard


def told(yard):
    """All that a Yard tells."""
    bridges = range(len(yard.tree()[0]))
    words = (yard.hosts(), yard.lying(), yard.down(), yard.tree(), yard.counts(), yard.log(), yard.is_open())
    return words, [yard.heard(host) for host in range(20)], [yard.rows(bridge) for bridge in bridges]
