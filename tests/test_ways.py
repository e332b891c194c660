"""Point 7: ro_ways."""

import unittest

from tests.helper import ask, begin, far, hear, last, line, look, message, names_waiting, ways

# 5 leads to 9 by line 0 at 4, to 8 by line 1 at 515; 20 lies behind both.
TWO = [begin(5), line(0, 9, 4), line(1, 8, 515)]


def told(name, *roads):
    """What is told of a router comes on line 0."""
    return hear(0, message(name, 1, *roads))


def star(costs_on, lines=range(8)):
    """5 with a line p at cost 10 to each router 10 + p, from where 20 lies at these costs."""
    calls = [begin(5)] + [line(p, 10 + p, 10) for p in lines]
    for p in lines:
        calls.append(hear(lines[0], message(10 + p, 1, (5, 1), (20, costs_on[p]))))
    calls.append(hear(lines[0], message(20, 1, *[(10 + p, 1) for p in lines])))
    return calls


class LinesTest(unittest.TestCase):
    def test_one_line(self):
        calls = TWO + [told(9, (5, 1), (20, 1)), told(8, (5, 1), (20, 1)), told(20, (8, 1), (9, 1))]
        self.assertEqual(ask(*calls, ways(20), ways(9), ways(8))[-3:], [[1], [1], [1]])
        calls = TWO + [told(9, (5, 1), (20, 512)), told(8, (5, 1), (20, 256)), told(20, (8, 1))]
        self.assertEqual(ask(*calls, ways(20), ways(9), ways(8))[-3:], [[2], [1], [2]])

    def test_line_p_counts_two_to_the_p(self):
        for p in range(8):
            calls = [begin(5), line(p, 9, 4), hear(p, message(9, 1, (5, 1)))]
            self.assertEqual(last(*calls, ways(9)), [2 ** p])

    def test_all_lines_together(self):
        self.assertEqual(last(*star([7] * 8), ways(20)), [255])

    def test_some_lines_together(self):
        self.assertEqual(last(*star([7, 8, 7, 9, 8, 7, 7, 8]), ways(20)), [1 + 4 + 32 + 64])
        self.assertEqual(last(*star([9, 8, 7, 6, 5, 4, 3, 2]), ways(20)), [128])
        self.assertEqual(last(*star([2, 3, 4, 5, 6, 7, 8, 2]), ways(20)), [129])

    def test_lines_at_other_costs_that_come_to_the_same(self):
        calls = TWO + [told(9, (5, 1), (20, 600)), told(8, (5, 1), (20, 89)), told(20, (8, 1), (9, 1))]
        self.assertEqual(ask(*calls, far(20), ways(20))[-2:], [[604], [3]])
        calls = TWO + [told(9, (5, 1), (20, 600)), told(8, (5, 1), (20, 90)), told(20, (8, 1), (9, 1))]
        self.assertEqual(ask(*calls, far(20), ways(20))[-2:], [[604], [1]])
        calls = TWO + [told(9, (5, 1), (20, 600)), told(8, (5, 1), (20, 88)), told(20, (8, 1), (9, 1))]
        self.assertEqual(ask(*calls, far(20), ways(20))[-2:], [[603], [2]])

    def test_two_lines_to_one_neighbour_at_the_same_cost(self):
        calls = [begin(5), line(2, 9, 4), line(6, 9, 4), hear(2, message(9, 1, (5, 1), (20, 3)))]
        calls += [hear(2, message(20, 1, (9, 1)))]
        self.assertEqual(ask(*calls, ways(9), ways(20))[-2:], [[68], [68]])

    def test_two_lines_to_one_neighbour_at_different_costs(self):
        calls = [begin(5), line(2, 9, 5), line(6, 9, 4), hear(2, message(9, 1, (5, 1), (20, 3)))]
        calls += [hear(2, message(20, 1, (9, 1)))]
        self.assertEqual(ask(*calls, ways(9), ways(20))[-2:], [[64], [64]])
        self.assertEqual(ask(*calls, line(6, 9, 5), ways(9), ways(20))[-2:], [[68], [68]])
        self.assertEqual(ask(*calls, line(6, 9, 6), ways(9), ways(20))[-2:], [[4], [4]])

    def test_what_the_neighbour_says_of_the_way_back_does_not_count(self):
        for back in (1, 4, 65535):
            calls = TWO + [told(9, (5, back), (8, 500)), told(8, (5, back), (9, 65535))]
            self.assertEqual(ask(*calls, ways(9), ways(8))[-2:], [[1], [1]])

    def test_to_a_neighbour_by_another(self):
        calls = TWO + [told(9, (5, 1), (8, 511)), told(8, (5, 1), (9, 1))]
        self.assertEqual(ask(*calls, ways(8), ways(9))[-2:], [[3], [1]])
        calls = TWO + [told(9, (5, 1), (8, 512)), told(8, (5, 1), (9, 1))]
        self.assertEqual(ask(*calls, ways(8), ways(9))[-2:], [[2], [1]])

    def test_no_line_leads_back_through_the_router(self):
        calls = TWO + [told(9, (5, 1)), told(8, (5, 1))]
        self.assertEqual(ask(*calls, ways(9), ways(8))[-2:], [[1], [2]])

    def test_over_sixty_three_roads_each_way_round(self):
        ring = [begin(0), line(3, 1, 65535), line(4, 63, 65535)]
        for name in range(1, 64):
            around = sorted([(name - 1, 65535), ((name + 1) % 64, 65535)])
            ring.append(hear(3, message(name, 1, *around)))
        given = ask(*ring, *[ways(d) for d in range(64)])[len(ring):]
        self.assertEqual(given, [[0]] + [[8]] * 31 + [[24]] + [[16]] * 31)
        self.assertEqual(last(*ring, line(4, 63, 0), far(63)), [63 * 65535])
        self.assertEqual(last(*ring, line(4, 63, 0), ways(63)), [8])

    def test_it_changes_nothing(self):
        calls = TWO + [told(9, (5, 1), (20, 600)), told(8, (5, 1), (20, 89)), told(20, (8, 1), (9, 1))]
        asked = calls + [ways(d) for d in (20, 9, 5, 8, 63, 64, -1, 20)]
        self.assertEqual(ask(*asked)[-8:], [[3], [1], [0], [2], [0], [-2], [-2], [3]])
        for p in (0, 1):
            self.assertEqual(names_waiting(asked, p), names_waiting(calls, p))
        for x in (5, 9, 20, 8):
            self.assertEqual(last(*asked, look(x)), last(*calls, look(x)))


class NotCountedTest(unittest.TestCase):
    def test_a_line_that_is_down(self):
        self.assertEqual(last(*star([7] * 8), line(3, 13, 0), ways(20)), [255 - 8])
        calls = TWO + [told(9, (5, 1)), line(2, 9, 4), line(0, 9, 0)]
        self.assertEqual(last(*calls, ways(9)), [4])
        self.assertEqual(last(*calls, line(2, 9, 0), ways(9)), [0])

    def test_a_line_that_is_down_though_its_neighbour_is_as_far(self):
        # From 9 it costs 4 to 20, as it does from 5 by line 1; line 0 is down, line 2 leads to 9.
        calls = [begin(5), line(1, 8, 2), line(2, 9, 3), line(0, 9, 1)]
        calls += [told(9, (5, 1), (20, 4)), told(8, (5, 1), (20, 2)), told(20, (8, 1), (9, 1))]
        self.assertEqual(ask(*calls, line(0, 9, 0), far(20), ways(20))[-2:], [[4], [2]])

    def test_a_line_that_leads_elsewhere_now(self):
        # 13 is reached by 20 alone then, and so by all lines.
        calls = star([7] * 8) + [line(3, 14, 10)]
        self.assertEqual(ask(*calls, ways(20), ways(14), far(13), ways(13))[-4:], [[255], [24], [18], [255]])

    def test_a_neighbour_that_does_not_tell_of_the_router(self):
        calls = TWO + [told(9, (20, 1)), told(8, (5, 1), (20, 1)), told(20, (8, 1), (9, 1))]
        self.assertEqual(ask(*calls, ways(20), ways(8), ways(9))[-3:], [[2], [2], [2]])

    def test_one_that_does_not_though_the_cost_would_be_the_same(self):
        calls = TWO + [told(9, (20, 512)), told(8, (5, 1), (20, 1)), told(20, (8, 1), (9, 1))]
        self.assertEqual(ask(*calls, far(20), ways(20))[-2:], [[516], [2]])
        calls = TWO + [told(9, (5, 1), (20, 512)), told(8, (5, 1), (20, 1)), told(20, (8, 1), (9, 1))]
        self.assertEqual(ask(*calls, far(20), ways(20))[-2:], [[516], [3]])

    def test_a_neighbour_of_which_nothing_is_known(self):
        self.assertEqual(ask(*TWO, ways(9), ways(8))[-2:], [[0], [0]])
        self.assertEqual(ask(*TWO, told(8, (5, 1)), ways(9), ways(8))[-2:], [[0], [2]])

    def test_a_neighbour_from_which_there_is_no_way(self):
        calls = TWO + [told(9, (5, 1)), told(8, (20, 1)), told(20, (8, 1))]
        self.assertEqual(ask(*calls, ways(20), ways(8))[-2:], [[0], [0]])


class NoneTest(unittest.TestCase):
    def test_the_router_itself(self):
        for me in (0, 5, 63):
            self.assertEqual(last(begin(me), ways(me)), [0])
        self.assertEqual(last(*star([7] * 8), ways(5)), [0])
        self.assertEqual(last(*TWO, told(9, (5, 1)), ways(5)), [0])

    def test_no_way(self):
        for d in (0, 4, 6, 63):
            self.assertEqual(last(begin(5), ways(d)), [0])
            self.assertEqual(last(*star([7] * 8), ways(d)), [0])

    def test_no_such_router(self):
        for d in (-1, 64, -5, 2147483647, -2147483648):
            self.assertEqual(last(begin(5), ways(d)), [-2])
            self.assertEqual(last(*star([7] * 8), ways(d)), [-2])

    def test_the_least_and_the_greatest_name(self):
        calls = [begin(5), line(0, 0, 65535), line(1, 63, 1), told(0, (5, 1)), told(63, (5, 1))]
        self.assertEqual(ask(*calls, ways(0), ways(63))[-2:], [[1], [2]])

    def test_a_refusal_does_nothing(self):
        calls = TWO + [told(9, (5, 3)), ways(64)]
        self.assertEqual(ask(*calls, ways(9), ways(-1), ways(9))[-4:], [[-2], [1], [-2], [1]])


if __name__ == "__main__":
    unittest.main()
