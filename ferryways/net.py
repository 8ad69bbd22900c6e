"""A net of up to eight nodes, and the calls that change it or ask of it."""

MOST_NODES = 8
LONGEST_ARC = 65535

DONE = 0
NOT_THERE = -1
NONE_SUCH = -2

BEGIN = 0
ARC = 1
CUT = 2
CLOSE = 3
LEN = 4
DIST = 5
WAY = 6
SEARCH = 7

# How many whole numbers stand behind each call's number; way has none but its row.
COUNTS = (1, 3, 2, 2, 2, 2, 0, 2)


class Net:
    """Nodes, arcs and the search that goes on, if one does."""

    def __init__(self):
        self.closed = [False]
        self.arcs = {}
        self.search = None

    def begin(self, nodes):
        if nodes < 1 or nodes > MOST_NODES:
            return NOT_THERE
        self.closed = [False] * nodes
        self.arcs = {}
        self.search = None
        return DONE

    def has(self, node):
        return node < len(self.closed)

    def has_both(self, a, b):
        return self.has(a) and self.has(b)

    def set_arc(self, a, b, length):
        if not self.has_both(a, b) or a == b or length > LONGEST_ARC:
            return NOT_THERE
        self.arcs[(a, b)] = length
        self.search = None
        return DONE

    def cut_arc(self, a, b):
        if not self.has_both(a, b):
            return NOT_THERE
        if (a, b) not in self.arcs:
            return NONE_SUCH
        self.arcs.pop((a, b))
        self.search = None
        return DONE

    def close_node(self, node, c):
        if not self.has(node):
            return NOT_THERE
        self.closed[node] = c != 0
        # A search ends even where the node was so before: the answer 0 ends it.
        self.search = None
        return DONE

    def arc_length(self, a, b):
        if not self.has_both(a, b):
            return NOT_THERE
        return self.arcs.get((a, b), NONE_SUCH)

    def distance(self, s, t):
        if not self.has_both(s, t):
            return NOT_THERE
        return self.shortest_from(s).get(t, NONE_SUCH)

    def shortest_from(self, s):
        """The length of the shortest way from s to each node that one leads to."""
        if self.closed[s]:
            return {}
        shortest = {s: 0}
        # No way has more arcs than there are nodes, so as many rounds settle every length.
        for turn in range(len(self.closed)):
            self.shorten(shortest)
        return shortest

    def shorten(self, shortest):
        """Go once over every arc, and note each length that gets less by it."""
        for a, b in self.arcs:
            if a in shortest and not self.closed[b]:
                length = shortest[a] + self.arcs[(a, b)]
                if b not in shortest or length < shortest[b]:
                    shortest[b] = length

    def way_length(self, row):
        if len(row) == 0:
            return NONE_SUCH
        passed = {}
        length = 0
        for place, node in enumerate(row):
            if not self.has(node) or self.closed[node] or node in passed:
                return NONE_SUCH
            passed[node] = True
            if place > 0:
                arc = (row[place - 1], node)
                if arc not in self.arcs:
                    return NONE_SUCH
                length += self.arcs[arc]
        return length

    def start_search(self, s, t):
        if not self.has_both(s, t):
            return NOT_THERE
        # From where, to where, and how many ways it has told.
        self.search = (s, t, 0)
        return DONE


def answer(net, call, numbers):
    """The number that one call answers."""
    if call == BEGIN:
        return net.begin(numbers[0])
    if call == ARC:
        return net.set_arc(numbers[0], numbers[1], numbers[2])
    if call == CUT:
        return net.cut_arc(numbers[0], numbers[1])
    if call == CLOSE:
        return net.close_node(numbers[0], numbers[1])
    if call == LEN:
        return net.arc_length(numbers[0], numbers[1])
    if call == DIST:
        return net.distance(numbers[0], numbers[1])
    if call == WAY:
        return net.way_length(numbers)
    return net.start_search(numbers[0], numbers[1])


def told_form(number):
    """An answer as it stands in the list: how many numbers it is, then its number, no bytes, nothing further."""
    return [3, number, 0, 0]


def answers(calls):
    """What a list of calls on a new net answers, call by call."""
    net = Net()
    told = []
    place = 0
    while place < len(calls):
        call = calls[place]
        first = place + 1
        count = COUNTS[call]
        if call == WAY:
            count = calls[first]
            first += 1
        told.extend(told_form(answer(net, call, calls[first:first + count])))
        place = first + count
    return told
