"""A history as a network: its stretches and pours are edges, along which marks flow.

Node 0 is the outside, from which bags come and to which they go. A mix is one node. A
pour is two nodes, one before it and one after it, and an edge between them, along which
flow as many marks as are poured. So the courses are the circulations of this network.

If it costs something to move marks, a mix is a node for each of its places and one more
between them: a mark that stays at its place only passes its node, and a mark that moves
goes by the node between.
"""

from mixedbags.counting import pour_numbers
from mixedbags.stretches import stretches_of


class Network:
    """The nodes and edges of a history.

    charges has, for some stretches and for some indices of pours, a list with the cost of
    each number of marks. marks is a dict with the marks that are left to each stretch.
    """

    def __init__(self, history, movers):
        self.events = history[1]
        self.stretches = stretches_of(history)
        self.pours = [at for at, event in enumerate(history[1]) if event[0] == "pour"]
        self.size = 1
        # By the index of an event and a place: where the bag comes to, and where the next one leaves from.
        self.ends = {}
        self.begins = {}
        # The pairs of a node of a place and the node between, for the mixes of the movers.
        self.moves = []
        for at, event in enumerate(history[1]):
            if event[0] == "mix" and event[1] in movers:
                self._spread(at)
            elif event[0] == "mix":
                self._join(at, self._new_node())
            elif event[0] == "pour":
                self._join(at, self._new_node())
                self._leave(at, self._new_node())

    def _new_node(self):
        self.size += 1
        return self.size - 1

    def _spread(self, at):
        between = self._new_node()
        for place in self.events[at][2]:
            node = self._new_node()
            self.ends[(at, place)] = node
            self.begins[(at, place)] = node
            self.moves.append((node, between))

    def _join(self, at, node):
        for place in self.events[at][2]:
            self.ends[(at, place)] = node
            self.begins[(at, place)] = node

    def _leave(self, at, node):
        for place in self.events[at][2]:
            self.begins[(at, place)] = node

    def loose_edges(self, trusted, marks):
        """Return edges on which every flow is possible, but costs what it differs from the allowed ones."""
        rates = {}
        for stretch in self.stretches:
            rates[stretch] = (0, [_miss(mark, marks[stretch]) for mark in (0, 1)])
        for at in self.pours:
            event = self.events[at]
            rates[at] = (0, [0] * (len(event[2]) + 1))
            if at in trusted:
                rates[at] = (0, [abs(number - event[3]) for number in pour_numbers(event, False)])
        return self._edges(rates, 0)

    def tight_edges(self, trusted, marks, charges):
        """Return edges on which only allowed flows are possible, at the cost of the charges and 1 for each move."""
        rates = {}
        for stretch in self.stretches:
            rates[stretch] = _charged(marks[stretch], charges, stretch)
        for at in self.pours:
            rates[at] = _charged(pour_numbers(self.events[at], at in trusted), charges, at)
        return self._edges(rates, 1)

    def _edges(self, rates, toll):
        edges = []
        for stretch in self.stretches:
            place, begin, end = stretch
            # News, the start and the last moment have no node of their own: bags come from the outside there.
            edges.append((self.begins.get((begin, place), 0), self.ends.get((end, place), 0), *rates[stretch]))
        for at in self.pours:
            place = self.events[at][2][0]
            edges.append((self.ends[(at, place)], self.begins[(at, place)], *rates[at]))
        for node, between in self.moves:
            # A place moves one mark at most. A free second unit keeps the distances of the nodes within the toll.
            edges.append((node, between, 0, [0, toll, 2 * toll]))
            edges.append((between, node, 0, [0, 0, 0]))
        return edges

    def course_from(self, flows):
        """Return the course in which the marks flow so."""
        states = [[] for _ in range(len(self.events) + 1)]
        for stretch, flow in zip(self.stretches, flows):
            place, begin, end = stretch
            if flow == 1:
                for moment in range(begin + 1, end + 1):
                    states[moment].append(place)
        return tuple([tuple(state) for state in states])

    def prices_from(self, distances, sign):
        """Return the prices that the distances of the nodes are, times 1 or -1."""
        worths = [sign * (distances[0] - distance) for distance in distances]
        prices = []
        for at, event in enumerate(self.events):
            if event[0] == "mix":
                prices.append(tuple([worths[self.ends[(at, place)]] for place in event[2]]))
            elif event[0] == "pour":
                place = event[2][0]
                prices.append((worths[self.ends[(at, place)]], worths[self.begins[(at, place)]]))
            else:
                prices.append(None)
        return tuple(prices)


def _miss(mark, marks):
    if mark in marks:
        return 0
    return 1


def _charged(numbers, charges, key):
    """Return the least of the numbers, and the cost of each of them."""
    if key not in charges:
        return (numbers[0], [0] * len(numbers))
    return (numbers[0], [charges[key][number] for number in numbers])
