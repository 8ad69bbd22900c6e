"""A net of up to eight nodes, and the calls that change it or ask of it."""

MOST_NODES = 8
LONGEST_ARC = 65535

DONE = 0
NOT_THERE = -1
NONE_SUCH = -2
NO_SEARCH = -3

BEGIN = 0
ARC = 1
CUT = 2
CLOSE = 3
LEN = 4
DIST = 5
WAY = 6
SEARCH = 7
NEXT = 8
TOLD = 9
NTH = 10
WAYS = 11
PLACE = 12
OVER = 13
APART = 14
NET = 15

# How many whole numbers stand behind each call's number; way and place have none but their row.
COUNTS = (1, 3, 2, 2, 2, 2, 0, 2, 0, 0, 3, 2, 0, 4, 2, 0)


def longer_rows(onward, length, row):
    """The rows that go one arc further than this one, each behind its length."""
    return [(length + more, row + [node]) for node, more in onward[row[-1]] if node not in row]


def all_ways(onward, s, t):
    """Every way from s to t behind its length, in no order; onward is what Net.arcs_onward tells."""
    if s not in onward:
        return []
    found = []
    rows = [(0, [s])]
    while len(rows) > 0:
        grown = []
        for length, row in rows:
            if row[-1] == t:
                found.append((length, row))
            else:
                grown.extend(longer_rows(onward, length, row))
        rows = grown
    return found


def way_told(way):
    """A way as next and nth tell it: how many nodes, its length, the nodes."""
    return [len(way[1]), way[0]] + way[1]


def sides_with(nodes, s, t):
    """Every choice among so many nodes that has s and hasn't t."""
    sides = [[s]]
    for node in range(nodes):
        if node != s and node != t:
            sides = sides + [side + [node] for side in sides]
    return sides


def leading_out(arcs, side):
    return [arc for arc in arcs if arc[0] in side and arc[1] not in side]


def fewest_first(row):
    return (len(row), row)


def first_least_parting(arcs, nodes, s, t):
    """Of the rows of fewest arcs that part s and t the first; arcs are those a way may go over, in order."""
    # All arcs out of a side that has s and hasn't t part the two. And the fewest parting arcs are always all those out
    # of one side: of the nodes that s leads to without them.
    return min([leading_out(arcs, side) for side in sides_with(nodes, s, t)], key=fewest_first)


class Net:
    """Nodes, arcs and the search that goes on, if one does."""

    def __init__(self):
        self.closed = [False]
        self.arcs = {}
        # All ways of the search in order, or None while there is no search; and how many of them are told.
        self.search = None
        self.told = 0

    def begin(self, nodes):
        if nodes < 1 or nodes > MOST_NODES:
            return NOT_THERE
        self.closed = [False] * nodes
        self.arcs = {}
        self.search = None
        return DONE

    def has(self, node):
        return node < len(self.closed)

    def has_both(self, a, b):
        return self.has(a) and self.has(b)

    def set_arc(self, a, b, length):
        if not self.has_both(a, b) or a == b or length > LONGEST_ARC:
            return NOT_THERE
        self.arcs[(a, b)] = length
        self.search = None
        return DONE

    def cut_arc(self, a, b):
        if not self.has_both(a, b):
            return NOT_THERE
        if (a, b) not in self.arcs:
            return NONE_SUCH
        self.arcs.pop((a, b))
        self.search = None
        return DONE

    def close_node(self, node, c):
        if not self.has(node):
            return NOT_THERE
        self.closed[node] = c != 0
        # A search ends even where the node was so before: the answer 0 ends it.
        self.search = None
        return DONE

    def arc_length(self, a, b):
        if not self.has_both(a, b):
            return NOT_THERE
        return self.arcs.get((a, b), NONE_SUCH)

    def distance(self, s, t):
        if not self.has_both(s, t):
            return NOT_THERE
        return self.shortest_from(s).get(t, NONE_SUCH)

    def shortest_from(self, s):
        """The length of the shortest way from s to each node that one leads to."""
        if self.closed[s]:
            return {}
        shortest = {s: 0}
        # No way has more arcs than there are nodes, so as many rounds settle every length.
        for turn in range(len(self.closed)):
            self.shorten(shortest)
        return shortest

    def shorten(self, shortest):
        """Go once over every arc, and note each length that gets less by it."""
        for a, b in self.arcs:
            if a in shortest and not self.closed[b]:
                length = shortest[a] + self.arcs[(a, b)]
                if b not in shortest or length < shortest[b]:
                    shortest[b] = length

    def way_length(self, row):
        if len(row) == 0:
            return NONE_SUCH
        passed = {}
        length = 0
        for place, node in enumerate(row):
            if not self.has(node) or self.closed[node] or node in passed:
                return NONE_SUCH
            passed[node] = True
            if place > 0:
                arc = (row[place - 1], node)
                if arc not in self.arcs:
                    return NONE_SUCH
                length += self.arcs[arc]
        return length

    def arcs_onward(self):
        """For each node that isn't closed: the nodes that aren't either to which its arcs lead, with the lengths."""
        found = {}
        for node, closed in enumerate(self.closed):
            if not closed:
                found[node] = []
        for a, b in self.arcs:
            if a in found and b in found:
                found[a].append((b, self.arcs[(a, b)]))
        return found

    def ordered_ways(self, s, t):
        # Of two ways from s to t none is the beginning of the other, so pairs and lists compare as the ways do.
        return sorted(all_ways(self.arcs_onward(), s, t))

    def start_search(self, s, t):
        if not self.has_both(s, t):
            return NOT_THERE
        # Whatever changes the net ends the search, so its ways can be gathered at once.
        self.search = self.ordered_ways(s, t)
        self.told = 0
        return DONE

    def next_way(self):
        if self.search is None:
            return [NO_SEARCH]
        if self.told == len(self.search):
            return [0]
        self.told += 1
        return way_told(self.search[self.told - 1])

    def told_ways(self):
        if self.search is None:
            return NO_SEARCH
        return self.told

    def way_at(self, s, t, k):
        if not self.has_both(s, t):
            return [NOT_THERE]
        ordered = self.ordered_ways(s, t)
        if k >= len(ordered):
            return [NONE_SUCH]
        return way_told(ordered[k])

    def count_ways(self, s, t):
        if not self.has_both(s, t):
            return NOT_THERE
        return len(all_ways(self.arcs_onward(), s, t))

    def place_of(self, row):
        length = self.way_length(row)
        if length == NONE_SUCH:
            return NONE_SUCH
        return self.ordered_ways(row[0], row[-1]).index((length, row))

    def count_over(self, s, t, a, b):
        if not self.has_both(s, t) or not self.has_both(a, b):
            return NOT_THERE
        if (a, b) not in self.arcs:
            return NONE_SUCH
        rows = [row for length, row in all_ways(self.arcs_onward(), s, t)]
        return len([row for row in rows if (a, b) in list(zip(row, row[1:]))])

    def parting(self, s, t):
        if not self.has_both(s, t) or s == t:
            return [NOT_THERE]
        passable = [(a, b) for a, b in sorted(self.arcs) if not self.closed[a] and not self.closed[b]]
        row = first_least_parting(passable, len(self.closed), s, t)
        # As many ways go apart as arcs are needed to part (Menger), so the arcs' count is both.
        told = [len(row)]
        for a, b in row:
            told.extend([a, b])
        return told

    def whole(self):
        told = [len(self.closed)]
        told.extend([0 if closed else 1 for closed in self.closed])
        for a, b in sorted(self.arcs):
            told.extend([a, b, self.arcs[(a, b)]])
        return told


def changed(net, call, numbers):
    """What a call answers that changes the net or its search."""
    if call == BEGIN:
        return net.begin(numbers[0])
    if call == ARC:
        return net.set_arc(numbers[0], numbers[1], numbers[2])
    if call == CUT:
        return net.cut_arc(numbers[0], numbers[1])
    if call == CLOSE:
        return net.close_node(numbers[0], numbers[1])
    return net.start_search(numbers[0], numbers[1])


def asked(net, call, numbers):
    """What a call answers that only asks, and is told one number."""
    if call == LEN:
        return net.arc_length(numbers[0], numbers[1])
    if call == DIST:
        return net.distance(numbers[0], numbers[1])
    if call == WAY:
        return net.way_length(numbers)
    if call == TOLD:
        return net.told_ways()
    if call == WAYS:
        return net.count_ways(numbers[0], numbers[1])
    if call == PLACE:
        return net.place_of(numbers)
    return net.count_over(numbers[0], numbers[1], numbers[2], numbers[3])


def answer(net, call, numbers):
    """The number that one call answers, then the further numbers it tells."""
    if call == NEXT:
        return net.next_way()
    if call == NTH:
        return net.way_at(numbers[0], numbers[1], numbers[2])
    if call == APART:
        return net.parting(numbers[0], numbers[1])
    if call == NET:
        return net.whole()
    if call <= CLOSE or call == SEARCH:
        return [changed(net, call, numbers)]
    return [asked(net, call, numbers)]


def told_form(told):
    """An answer as it stands in the list: how many numbers, its number, no bytes, how many are further told, they."""
    further = told[1:]
    return [3 + len(further), told[0], 0, len(further)] + further


def answers(calls):
    """What a list of calls on a new net answers, call by call."""
    net = Net()
    told = []
    place = 0
    while place < len(calls):
        call = calls[place]
        first = place + 1
        count = COUNTS[call]
        if call == WAY or call == PLACE:
            count = calls[first]
            first += 1
        told.extend(told_form(answer(net, call, calls[first:first + count])))
        place = first + count
    return told
