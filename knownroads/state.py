"""What one router keeps, and the calls that are made on it.

Each call gives back the list of the numbers that it answers: a refusal is one number below 0, and
it is found before anything is changed.
"""

from knownroads.message import Told, is_router, message_of, read_message
from knownroads.ways import least_costs_to, road_cost

LINES = 8
MOST_COST = 65535
MOST_NUMBER = 4294967295
MOST_BYTES = 65536


class Router:
    """One router: its lines, what it knows of each router, and what waits on each line."""

    def __init__(self):
        # The first call gives the router its name: until then any name will do.
        self.begin(0)

    def begin(self, me):
        if not is_router(me):
            return [-2]
        self.me = me
        self.lines = [(0, 0) for p in range(LINES)]
        self.known = {me: Told(me, 1, [])}
        self.waits = [{} for p in range(LINES)]
        return [0]

    def set_line(self, p, nb, cost):
        if not is_line(p) or not is_router(nb) or nb == self.me or not 0 <= cost <= MOST_COST:
            return [-2]
        lines = list(self.lines)
        lines[p] = (nb, cost)
        own = self.known[self.me]
        is_other = roads_by(lines) != own.roads
        if is_other and own.number == MOST_NUMBER:
            return [-4]
        self.lines = lines
        self.fill_line(p)
        if is_other:
            self.tell_anew(own.number + 1)
        return [0]

    def hear(self, p, octets):
        if not is_line(p):
            return [-2]
        if not self.is_up(p):
            return [-1]
        told = read_message(octets)
        if told is None:
            return [-3]
        if told.name == self.me:
            return self.hear_of_itself(p, told)
        return self.hear_of_another(p, told)

    def tell_next(self, p, most):
        if not is_line(p) or most > MOST_BYTES:
            return [-2]
        if not self.waits[p]:
            return [-1]
        name = min(self.waits[p])
        answer = answer_that_tells(self.known[name], most)
        if answer != [-5]:
            self.wait_no_more(p, name)
        return answer

    def look(self, x, most):
        if not is_router(x) or most > MOST_BYTES:
            return [-2]
        if x not in self.known:
            return [-1]
        return answer_that_tells(self.known[x], most)

    def least_cost(self, d):
        if not is_router(d):
            return [-2]
        return [least_costs_to(self.known, d).get(self.me, -1)]

    def lines_on(self, d):
        if not is_router(d):
            return [-2]
        least = least_costs_to(self.known, d)
        together = 0
        for p in range(LINES):
            if self.leads_on(p, least):
                together += 1 << p
        return [together]

    def leads_on(self, p, least):
        """Whether a way at the least cost begins with line p; least: the least cost from each router."""
        nb, cost = self.lines[p]
        if not self.is_up(p) or nb not in least or road_cost(self.known, self.me, nb) == 0:
            return False
        # The line's own cost: the road's is that of the cheapest line to the same neighbour.
        return cost + least[nb] == least[self.me]

    def hear_of_another(self, p, told):
        known = self.known.get(told.name)
        if known is None or known.number < told.number:
            self.known[told.name] = told
            self.wait_on_all(told.name)
            self.wait_no_more(p, told.name)
            return [1]
        if known.number == told.number:
            self.wait_no_more(p, told.name)
        else:
            self.wait_on(p, told.name)
        return [0]

    def hear_of_itself(self, p, told):
        own = self.known[self.me]
        if told.number < own.number:
            self.wait_on(p, self.me)
            return [0]
        if told.number == own.number and told.roads == own.roads:
            self.wait_no_more(p, self.me)
            return [0]
        if told.number == MOST_NUMBER:
            return [-4]
        # Something others hold newer than the router's own word must be outdone, or they would keep it.
        self.tell_anew(told.number + 1)
        return [1]

    def tell_anew(self, number):
        self.known[self.me] = Told(self.me, number, roads_by(self.lines))
        self.wait_on_all(self.me)

    def is_up(self, p):
        # A line of cost 0 is down: where it led to does not matter then.
        return self.lines[p][1] > 0

    def fill_line(self, p):
        """Make all that is known wait on line p if it is up, and nothing if it is down."""
        self.waits[p] = {}
        if self.is_up(p):
            for name in self.known:
                self.wait_on(p, name)

    def wait_on_all(self, name):
        for p in range(LINES):
            if self.is_up(p):
                self.wait_on(p, name)

    def wait_on(self, p, name):
        self.waits[p][name] = True

    def wait_no_more(self, p, name):
        self.waits[p].pop(name, None)


def is_line(p):
    return 0 <= p < LINES


def answer_that_tells(told, most):
    """How many bytes the message has that tells this, then these; refused where it has more than most."""
    octets = message_of(told)
    if len(octets) > most:
        return [-5]
    return [len(octets)] + octets


def roads_by(lines):
    """The roads that these lines make: to each neighbour at the least cost, by rising names."""
    least = {}
    for nb, cost in lines:
        if cost > 0:
            least[nb] = min(cost, least.get(nb, cost))
    return [(nb, least[nb]) for nb in sorted(least)]
