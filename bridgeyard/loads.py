"""What lies on the members of roads, each way in its turn."""


class Load:
    """The frames that lie on roads: (number, source, goal, lan), the number None for a greeting.

    Those on one member of a road that go the same way make a line, the first one ahead.
    """

    def __init__(self):
        # For each (road, member, back) that a frame ever lay on its line, perhaps an empty one by now.
        self._lines = {}

    def put(self, road, back, members, frame):
        """Lay a frame on one of these members of a road, behind those that lie there that way."""
        member = self._member(road, back, members, frame[1:])
        self._lines.setdefault((road, member, back), []).append(frame)

    def take(self, road, member, back):
        """Take the first frame off a line, None if none lies there."""
        line = self._line(road, member, back)
        if not line:
            return None
        return line.pop(0)

    def rows(self):
        """Where frames lie: (road, member, back, how many), rising."""
        return [(*place, len(self._lines[place])) for place in sorted(self._lines) if self._lines[place]]

    def lose_of(self, source):
        """Lose what a host sent; tells how many of these had numbers."""
        before = self._numbered()
        self._lines = {place: [frame for frame in line if frame[1] != source] for place, line in self._lines.items()}
        return before - self._numbered()

    def lose_all(self):
        """Lose all that lies; tells how many of these had numbers."""
        before = self._numbered()
        self._lines = {}
        return before

    def _line(self, road, member, back):
        return self._lines.get((road, member, back), [])

    def _numbered(self):
        return len([frame for line in self._lines.values() for frame in line if frame[0] is not None])

    def _member(self, road, back, members, talk):
        """The member for a talk's next frame: where others of it lie that way, else where fewest lie."""
        # On another member it might overtake those ahead of it.
        for member in members:
            if talk in [frame[1:] for frame in self._line(road, member, back)]:
                return member
        return min([(len(self._line(road, member, back)), member) for member in members])[1]
