"""Networks of ways, and how many units can flow on them."""

# The nodes from which all units come and to which they all go, where a network has such.
SOURCE = "source"
SINK = "sink"


class Network:
    """Nodes with ways between them. Of two nodes at most one has a way to the other one."""

    def __init__(self):
        # How many units more may go from a node to another one; against a way as many as flow on it.
        self._room = {}

    def add_way(self, start, end, units):
        """Lets so many units more go from a node to another one."""
        for node in (start, end):
            if node not in self._room:
                self._room[node] = {}
        self._room[start][end] = self._room[start].get(end, 0) + units
        self._room[end][start] = self._room[end].get(start, 0)

    def path(self, start, end):
        """The steps (from, to) of a shortest path with room, the last one ahead; none if there is no path."""
        reached = {start: None}
        queue = [start]
        at = 0
        while at < len(queue) and end not in reached:
            here = queue[at]
            ways = self._room.get(here, {})
            for there, room in ways.items():
                if room > 0 and there not in reached:
                    reached[there] = here
                    queue.append(there)
            at += 1
        steps = []
        node = end
        while node in reached and reached[node] is not None:
            steps.append((reached[node], node))
            node = reached[node]
        return steps

    def flow(self, start, end):
        """Lets as many units more flow from a node to another one as can, and tells how many."""
        total = 0
        steps = self.path(start, end)
        while len(steps) > 0:
            # Shortest paths keep the number of turns small, however great the units are.
            units = min([int(self._room[one][other]) for one, other in steps])
            for one, other in steps:
                self._room[one][other] = self._room[one][other] - units
                self._room[other][one] = self._room[other][one] + units
            total = total + units
            steps = self.path(start, end)
        return total

    def flowing(self, start, end):
        """How many units flow on a way."""
        return self._room[end][start]

    def copy(self):
        """A network with the same ways and flows that goes on by itself."""
        other = Network()
        other._room = {start: {end: ways[end] for end in ways} for start, ways in self._room.items()}
        return other

    def without(self, start, end):
        """A network with the same ways and flows but one way, which is closed as it is."""
        other = self.copy()
        other._room[start][end] = 0
        other._room[end][start] = 0
        return other
