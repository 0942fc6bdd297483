"""Flows: cubes sent through a net so that they earn most, and what one cube more would earn."""

from sluiceway.errors import NoWay

# Where the parts of an arc stand in its tuple.
FROM = 0
TO = 1
MOST = 2
GAIN = 3


def best(many, arcs, supplies):
    """Tell what is earned most, a flow that earns it, and the price at each node."""
    check_ways(many, arcs)
    sending = Sending(many, arcs, supplies)
    ways = sending.best_ways()
    # Cubes go by best ways alone; where these are full, the next best ones are sought. So at each step nothing that
    # was sent could earn more, and in the end the best way that is open for one cube more earns the price.
    while sum(sending.left[:many]) > 0:
        sending.send_by(ways)
        ways = sending.best_ways()
    flow = sending.flow_sent()
    earned = sum([cubes * arc[GAIN] for cubes, arc in zip(flow, arcs)])
    return (earned, flow, [sending.gain_of(way) for way in ways[:many]])


def check_ways(many, arcs):
    """Refuse a net with a node from which no arc without a bound leads."""
    unbounded = [arc[FROM] for arc in arcs if arc[MOST] is None]
    for node in range(many):
        if node not in unbounded:
            raise NoWay(node)


class Sending:
    """A net while its cubes are sent: what is left at each node, and how much more could go along each link.

    Each arc has two links, one behind the other: along it, and back, by which what goes along it is given back.

    A way to the goal is kept as one number: what it earns times the scale, less the number of its links, which is
    below the scale. So the greater way earns more, or as much along fewer links.
    """

    def __init__(self, many, arcs, supplies):
        # No arc carries more than all cubes together, so on one as wide as this there is room for one more always.
        wide = sum(supplies) + 1
        self.scale = many + 1
        self.left = list(supplies) + [0]
        self.links_from = [[] for cubes in self.left]
        self.ends = []
        self.worths = []
        self.rooms = []
        for arc in arcs:
            self.add_link(arc[FROM], arc[TO], arc[GAIN], wide if arc[MOST] is None else arc[MOST])
            self.add_link(arc[TO], arc[FROM], -arc[GAIN], 0)

    def add_link(self, node, end, gain, room):
        """Add a link from a node."""
        self.links_from[node].append(len(self.ends))
        self.ends.append(end)
        self.worths.append(gain * self.scale - 1)
        self.rooms.append(room)

    def gain_of(self, way):
        """Tell what a way earns."""
        return -(-way // self.scale)

    def links_of(self, way):
        """Tell how many links a way has."""
        return -way % self.scale

    def best_ways(self):
        """Tell for each node the best way to the goal along links that have room, the goal's own behind them."""
        ways = [None for cubes in self.left]
        ways[-1] = 0
        is_done = False
        while not is_done:
            is_done = True
            # From the last node on: all arcs lead to later nodes, so only links back ask for another walk.
            for node in range(len(ways) - 2, -1, -1):
                way = self.best_way(node, ways)
                if way != ways[node]:
                    ways[node] = way
                    is_done = False
        return ways

    def best_way(self, node, ways):
        """Tell the best way from a node by the ways that are known so far."""
        found = ways[node]
        for link in self.links_from[node]:
            onward = ways[self.ends[link]]
            if self.rooms[link] > 0 and onward is not None:
                way = onward + self.worths[link]
                if found is None or found < way:
                    found = way
        return found

    def send_by(self, ways):
        """Send from each node what is left there along the links of best ways, as far as they have room."""
        # The farthest nodes first: what they send is then sent on by the nodes to which it comes.
        nodes = sorted(range(len(ways) - 1), key=lambda node: self.links_of(ways[node]), reverse=True)
        for node in nodes:
            for link in self.links_from[node]:
                if ways[node] == ways[self.ends[link]] + self.worths[link]:
                    self.send_along(node, link, min(self.left[node], self.rooms[link]))

    def send_along(self, node, link, cubes):
        """Send cubes from a node along a link, and make room for them on the link back."""
        back = link + 1 if link % 2 == 0 else link - 1
        self.left[node] -= cubes
        self.left[self.ends[link]] += cubes
        self.rooms[link] -= cubes
        self.rooms[back] += cubes

    def flow_sent(self):
        """Tell what goes along each arc: so much can be given back."""
        return [room for link, room in enumerate(self.rooms) if link % 2 == 1]
