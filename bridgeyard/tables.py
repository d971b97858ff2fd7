"""What a bridge learns: by which port each host of a lan was seen, and when."""

from bridgeyard.plans import check_count

KEEP = 8
MOST_ROWS = 12
LONGEST_KEEP = 30
MOST_OF_ALL = 20


class Table:
    """Rows (lan, host, port), each kept for a time, and no more than so many."""

    def __init__(self, *, keep=KEEP, most=MOST_ROWS):
        check_count(keep, 1, LONGEST_KEEP)
        check_count(most, 1, MOST_OF_ALL)
        self._keep = keep
        self._most = most
        # For each (lan, host) when it was learnt, and its port.
        self._learnt = {}

    def learn(self, now, lan, host, port):
        """Know a row from now on, in the place of an elder one of this lan and host."""
        others = {place: self._learnt[place] for place in self._fresh(now) if place != (lan, host)}
        if len(others) == self._most:
            eldest = min([(others[place][0], place) for place in others])
            del others[eldest[1]]
        others[(lan, host)] = (now, port)
        self._learnt = others

    def find(self, now, lan, host):
        """The port by which a lan's host was seen, None if it isn't known."""
        if (lan, host) not in self._fresh(now):
            return None
        return self._learnt[(lan, host)][1]

    def forget(self, kind):
        """Forget all rows by ports with this first part."""
        self._learnt = {place: row for place, row in self._learnt.items() if row[1][0] != kind}

    def strike(self, lan, host):
        """Forget the row of a lan's host."""
        self._learnt.pop((lan, host), None)

    def rows(self, now):
        """All rows that are known, rising."""
        return [(lan, host, self._learnt[(lan, host)][1]) for lan, host in self._fresh(now)]

    def _fresh(self, now):
        """The (lan, host) that weren't learnt too long ago, rising."""
        # Told, not swept: whoever asks changes nothing.
        return sorted([place for place in self._learnt if now - self._learnt[place][0] < self._keep])
