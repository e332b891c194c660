"""The whole program: lists of calls of all seven kinds, and many routers that tell one another."""

import time
import unittest

from knownroads.router import answers
from tests.helper import MOST_NUMBER, ask, begin, far, following, hear, last, line, look, message, ways

NO_WAY = 10 ** 9


class Draws:
    """Numbers that look drawn by chance, but come the same each time."""

    def __init__(self, seed):
        self.state = seed

    def below(self, bound):
        self.state = (self.state * 6364136223846793005 + 1442695040888963407) % 2 ** 64
        return (self.state >> 33) % bound

    def one_of(self, choices):
        return choices[self.below(len(choices))]


def some_message(draws, routers):
    name = draws.below(routers)
    others = [other for other in range(routers) if other != name and draws.below(3)]
    roads = [(other, 1 + draws.below(6)) for other in others[:8]]
    octets = message(name, draws.one_of([1, 1, 2, 3, 4, 5, MOST_NUMBER]), *roads)
    if draws.below(12) == 0:
        octets[draws.below(len(octets))] = draws.below(256)
    return octets


def some_call(draws, routers):
    kind = draws.below(20)
    if kind < 5:
        return line(draws.below(9) - draws.below(2), draws.below(routers), draws.below(7))
    if kind < 12:
        return hear(draws.below(8), some_message(draws, routers))
    if kind < 15:
        return following(draws.below(9), draws.one_of([8, 30, 65536, 65537]))
    if kind < 16:
        return look(draws.below(routers + 1), draws.one_of([8, 30, 65536, 65537]))
    if kind < 18:
        return far(draws.below(routers + 1))
    return ways(draws.below(routers + 1))


def some_calls(draws, routers, count):
    return [begin(draws.below(routers))] + [some_call(draws, routers) for number in range(count - 1)]


def lines_after(calls, given):
    """(neighbour, cost) of each line by the calls ro_line that were answered 0, cost 0 where it is down."""
    lines = [(0, 0)] * 8
    for call, answer in zip(calls, given):
        if call[0] == 1 and answer == [0]:
            lines[call[1]] = (call[2], call[3])
    return lines


def roads_told(looks):
    """What each end says of each road, by (from, to)."""
    said = {}
    for answer in looks:
        if answer != [-1]:
            octets = answer[1:]
            for at in range(6, len(octets), 3):
                said[octets[0], octets[at]] = octets[at + 1] * 256 + octets[at + 2]
    return said


def least_costs(said, routers):
    """The least cost from each router to each: by trying each router as a stop between each two."""
    least = [[0 if u == v else NO_WAY for v in range(routers)] for u in range(routers)]
    for u, v in said:
        if (v, u) in said:
            least[u][v] = said[u, v]
    for between in range(routers):
        for u in range(routers):
            for v in range(routers):
                least[u][v] = min(least[u][v], least[u][between] + least[between][v])
    return least


class AllKindsTest(unittest.TestCase):
    def check_roads(self, calls, me, routers):
        names = range(routers)
        asked = [look(x) for x in names] + [far(d) for d in names] + [ways(d) for d in names]
        given = ask(*calls, *asked)
        lines = lines_after(calls, given)
        given = given[len(calls):]
        said = roads_told(given[:routers])
        least = least_costs(said, routers)
        costs = [cost if cost < NO_WAY else -1 for cost in least[me]]
        self.assertEqual(given[routers:2 * routers], [[cost] for cost in costs])
        for d in names:
            on = [p for p, (nb, cost) in enumerate(lines)
                  if cost > 0 and (nb, me) in said and cost + least[nb][d] == costs[d]]
            self.assertEqual(given[2 * routers + d], [sum(2 ** p for p in on)])
        return given

    def test_ro_far_and_ro_ways_by_what_ro_look_tells(self):
        draws = Draws(7)
        seen = set()
        for number in range(60):
            routers = 3 + number % 8
            calls = some_calls(draws, routers, 10 + draws.below(80))
            given = self.check_roads(calls, calls[0][1], routers)
            seen.update(answer[0] for answer in given[2 * routers:])
        # Ways by several lines at once were among them, and none at all.
        self.assertGreater(len(seen), 20)
        self.assertIn(0, seen)

    def test_so_over_sixty_four_routers(self):
        calls = circulant()
        self.check_roads(calls, 0, 64)

    def test_looking_and_finding_ways_changes_nothing(self):
        draws = Draws(11)
        for number in range(20):
            calls = some_calls(draws, 6, 300)
            given = ask(*calls)
            at = [at for at, call in enumerate(calls) if call[0] < 4]
            self.assertEqual(ask(*[calls[i] for i in at]), [given[i] for i in at])

    def test_refused_calls_change_nothing(self):
        draws = Draws(12)
        for number in range(20):
            calls = some_calls(draws, 6, 300)
            given = ask(*calls)
            # 0 to 64 or a count of bytes where something is done, else below 0.
            at = [at for at, answer in enumerate(given) if answer[0] >= 0]
            self.assertLess(len(at), 300)
            self.assertEqual(ask(*[calls[i] for i in at]), [given[i] for i in at])

    def test_ro_begin_comes_again(self):
        draws = Draws(13)
        for number in range(10):
            parts = [some_calls(draws, 5 + draws.below(5), 40) for part in range(10)]
            whole = [call for part in parts for call in part]
            self.assertEqual(len(whole), 400)
            self.assertEqual({call[0] for call in whole}, set(range(7)))
            self.assertEqual(ask(*whole), [answer for part in parts for answer in ask(*part)])

    def test_ro_begin_that_is_refused_changes_nothing(self):
        draws = Draws(14)
        calls = some_calls(draws, 6, 200)
        with_refused = []
        for call in calls:
            with_refused += [call, begin(draws.one_of([-1, 64, 2147483647, -2147483648]))]
        given = ask(*with_refused)
        self.assertEqual(given[::2], ask(*calls))
        self.assertEqual(given[1::2], [[-2]] * 200)

    def test_what_is_handed_in_stays_and_nothing_is_kept(self):
        draws = Draws(15)
        numbers = [number for call in some_calls(draws, 6, 400) for number in call]
        handed_in = list(numbers)
        first = answers(handed_in)
        self.assertEqual(handed_in, numbers)
        answers([0, 3, 1, 0, 4, 9])
        self.assertEqual(answers(handed_in), first)
        self.assertEqual({type(number) for number in first}, {int})


def circulant():
    """Router 0 knows 64 routers, each with eight roads: to the four before it and the four behind it."""
    near = (1, 2, 3, 4, 60, 61, 62, 63)
    calls = [begin(0)] + [line(p, near[p], 60000 + 613 * p) for p in range(8)]
    for name in range(1, 64):
        around = sorted((name + step) % 64 for step in near)
        calls.append(hear(0, message(name, 1, *[(to, 1 + (name * 7919 + to * 104729) % 65535) for to in around])))
    return calls


class SpeedTest(unittest.TestCase):
    def test_four_hundred_calls_over_sixty_four_routers(self):
        calls = circulant()
        while len(calls) < 400:
            calls.append((far, ways)[len(calls) % 2](len(calls) % 64))
        numbers = [number for call in calls for number in call]
        self.assertLessEqual(len(numbers), 30000)
        start = time.process_time()
        given = answers(numbers)
        self.assertLess(time.process_time() - start, 5)
        self.assertEqual(len(given), 800)
        self.assertNotIn(-1, given)


class Net:
    """Routers that tell one another, each with its own list of calls; a road joins two of them by a line each."""

    def __init__(self, routers):
        self.calls = [[begin(me)] for me in range(routers)]
        self.joined = {}

    def join(self, u, p, cost, v, q, cost_back):
        self.joined[u, p] = (v, q)
        self.joined[v, q] = (u, p)
        self.calls[u].append(line(p, v, cost))
        self.calls[v].append(line(q, u, cost_back))

    def part(self, u, p):
        v, q = self.joined.pop((u, p))
        self.joined.pop((v, q))
        self.calls[u].append(line(p, v, 0))
        self.calls[v].append(line(q, u, 0))

    def tell_all(self):
        """Let each tell what waits, until nobody waits any more."""
        told = True
        while told:
            told = False
            for u, p in list(self.joined):
                answer = last(*self.calls[u], following(p))
                if answer != [-1]:
                    v, q = self.joined[u, p]
                    self.calls[u].append(following(p))
                    self.calls[v].append(hear(q, answer[1:]))
                    told = True

    def ask(self, me, *calls):
        return ask(*self.calls[me], *calls)[-len(calls):]


class TellingTest(unittest.TestCase):
    def net(self):
        net = Net(5)
        # 0 - 1 - 2 - 3 - 0 in a ring, with 4 behind 2; 0 to 1 twice.
        net.join(0, 0, 1, 1, 0, 10)
        net.join(0, 5, 1, 1, 5, 20)
        net.join(1, 1, 2, 2, 0, 20)
        net.join(2, 1, 3, 3, 0, 30)
        net.join(3, 1, 4, 0, 1, 3)
        net.join(2, 7, 7, 4, 3, 70)
        net.tell_all()
        return net

    def check_all_know_the_same(self, net, names):
        looks = [net.ask(me, *[look(x) for x in names]) for me in names]
        for known in looks:
            self.assertNotIn([-1], known)
            self.assertEqual(known, looks[0])

    def test_all_come_to_know_the_same(self):
        net = self.net()
        self.check_all_know_the_same(net, range(5))
        self.assertEqual(net.ask(4, look(0)), [[12] + message(0, 3, (1, 1), (3, 3))])

    def test_each_finds_its_ways(self):
        net = self.net()
        self.assertEqual(net.ask(0, *[far(d) for d in range(6)]), [[0], [1], [3], [3], [10], [-1]])
        self.assertEqual(net.ask(0, *[ways(d) for d in range(6)]), [[0], [33], [33], [2], [33], [0]])
        self.assertEqual(net.ask(4, *[far(d) for d in range(6)]), [[77], [78], [70], [73], [0], [-1]])
        self.assertEqual(net.ask(4, *[ways(d) for d in range(6)]), [[8], [8], [8], [8], [0], [0]])
        self.assertEqual(net.ask(1, *[ways(d) for d in (0, 2, 3, 4)]), [[2], [2], [2], [2]])
        self.assertEqual(net.ask(1, *[far(d) for d in (0, 2, 3, 4)]), [[9], [2], [5], [9]])

    def test_a_road_goes(self):
        net = self.net()
        net.part(1, 1)
        net.tell_all()
        self.check_all_know_the_same(net, range(5))
        self.assertEqual(net.ask(0, *[far(d) for d in range(5)]), [[0], [1], [33], [3], [40]])
        self.assertEqual(net.ask(0, *[ways(d) for d in range(5)]), [[0], [33], [2], [2], [2]])
        self.assertEqual(net.ask(1, far(0), ways(0)), [[10], [1]])

    def test_one_begins_again(self):
        net = self.net()
        net.calls[3] += [begin(3), line(0, 2, 30), line(1, 0, 4)]
        # Both neighbours hear that their line came up anew.
        net.calls[2].append(line(1, 3, 3))
        net.calls[0].append(line(1, 3, 3))
        net.tell_all()
        self.check_all_know_the_same(net, range(5))
        # What was told of it by the number 3 was the very same: it needs no greater one.
        self.assertEqual(net.ask(3, look(3)), [[12] + message(3, 3, (0, 4), (2, 30))])

    def test_one_begins_again_with_other_roads(self):
        net = self.net()
        net.part(2, 1)
        net.calls[3] += [begin(3), line(1, 0, 5)]
        net.calls[0].append(line(1, 3, 3))
        net.tell_all()
        self.check_all_know_the_same(net, range(5))
        # Others held the number 3 of it, and it had come to 2 by then: that is outdone.
        self.assertEqual(net.ask(0, look(3)), [[9] + message(3, 4, (0, 5))])
        self.assertEqual(net.ask(3, *[far(d) for d in range(5)]), [[5], [6], [8], [0], [15]])


if __name__ == "__main__":
    unittest.main()
