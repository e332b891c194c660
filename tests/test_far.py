"""Point 6: ro_far."""

import unittest

from tests.helper import ask, begin, far, hear, last, line, look, message, names_waiting

# 5 leads to 9 at 4 and to 8 at 515; all that's told of other routers comes on line 0.
TWO = [begin(5), line(0, 9, 4), line(1, 8, 515)]


def told(name, *roads):
    return hear(0, message(name, 1, *roads))


def row_of(count, cost):
    """Routers 0 to count - 1 in a row, each with roads at this cost to the one before it and behind it."""
    calls = [begin(0), line(0, 1, cost)]
    for name in range(1, count):
        roads = [(name - 1, cost), (name + 1, cost)]
        calls.append(told(name, *roads[:count - name]))
    return calls


class RoadTest(unittest.TestCase):
    def test_to_the_router_itself(self):
        for me in (0, 5, 63):
            self.assertEqual(last(begin(me), far(me)), [0])
        self.assertEqual(last(*TWO, told(9, (5, 3)), told(8, (5, 1)), far(5)), [0])

    def test_a_road_costs_what_the_near_end_says(self):
        self.assertEqual(last(*TWO, told(9, (5, 3)), far(9)), [4])
        self.assertEqual(last(*TWO, told(9, (5, 3000)), far(9)), [4])
        self.assertEqual(last(*TWO, told(8, (5, 1)), far(8)), [515])

    def test_so_it_does_further_on(self):
        calls = TWO + [told(9, (5, 3000), (20, 70)), told(20, (9, 1), (21, 256)), told(21, (20, 65535))]
        self.assertEqual(ask(*calls, far(20), far(21))[-2:], [[74], [330]])

    def test_a_road_that_the_far_end_does_not_tell_of_is_none(self):
        self.assertEqual(last(*TWO, told(9), far(9)), [-1])
        self.assertEqual(last(*TWO, told(9, (8, 1), (20, 1)), far(9)), [-1])
        calls = TWO + [told(9, (5, 3), (20, 70)), told(20, (8, 1), (21, 1)), told(21, (20, 1))]
        self.assertEqual(ask(*calls, far(9), far(20), far(21))[-3:], [[4], [-1], [-1]])

    def test_a_road_that_the_near_end_does_not_tell_of_is_none(self):
        self.assertEqual(last(*TWO, told(20, (5, 1)), far(20)), [-1])
        calls = TWO + [told(9, (5, 3)), told(20, (9, 1), (5, 1))]
        self.assertEqual(ask(*calls, far(9), far(20))[-2:], [[4], [-1]])

    def test_a_road_to_a_router_of_which_nothing_is_known_is_none(self):
        self.assertEqual(ask(*TWO, far(9), far(8), far(20))[-3:], [[-1], [-1], [-1]])
        calls = TWO + [told(9, (5, 3), (20, 70)), told(21, (20, 1))]
        self.assertEqual(ask(*calls, far(20), far(21))[-2:], [[-1], [-1]])

    def test_no_way_leads_through_a_router_of_which_nothing_is_known(self):
        calls = TWO + [told(20, (9, 1))]
        self.assertEqual(last(*calls, far(20)), [-1])
        self.assertEqual(last(*calls, told(9, (5, 1), (20, 6)), far(20)), [10])

    def test_the_cheapest_line_counts(self):
        calls = [begin(5), line(0, 9, 7), line(1, 9, 6), line(2, 9, 8), told(9, (5, 1))]
        self.assertEqual(last(*calls, far(9)), [6])

    def test_a_line_that_went_down_is_no_road(self):
        calls = TWO + [told(9, (5, 3)), line(0, 9, 0)]
        self.assertEqual(last(*calls, far(9)), [-1])
        self.assertEqual(last(*calls, line(7, 9, 11), far(9)), [11])

    def test_what_is_known_by_now_counts(self):
        calls = TWO + [told(9, (5, 3), (20, 70)), told(20, (9, 1))]
        self.assertEqual(last(*calls, far(20)), [74])
        self.assertEqual(last(*calls, hear(1, message(9, 2, (5, 3), (20, 60))), far(20)), [64])
        self.assertEqual(last(*calls, hear(1, message(9, 2, (5, 3))), far(20)), [-1])
        self.assertEqual(last(*calls, hear(1, message(20, 2)), far(20)), [-1])
        self.assertEqual(last(*calls, hear(1, message(9, 1, (5, 3), (20, 60))), far(20)), [74])

    def test_it_changes_nothing(self):
        calls = TWO + [told(9, (5, 3), (20, 70)), told(20, (9, 1))]
        asked = calls + [far(d) for d in (20, 9, 5, 8, 63, 64, -1, 20)]
        self.assertEqual(ask(*asked)[-8:], [[74], [4], [0], [-1], [-1], [-2], [-2], [74]])
        for p in (0, 1):
            self.assertEqual(names_waiting(asked, p), names_waiting(calls, p))
        for x in (5, 9, 20, 8):
            self.assertEqual(last(*asked, look(x)), last(*calls, look(x)))


class LeastTest(unittest.TestCase):
    def test_the_cheapest_of_several_ways(self):
        calls = TWO + [told(9, (5, 1), (20, 600)), told(8, (5, 1), (20, 90))]
        self.assertEqual(last(*calls, told(20, (8, 1), (9, 1)), far(20)), [604])
        self.assertEqual(last(*calls, told(20, (8, 1)), far(20)), [605])

    def test_a_way_over_more_roads_may_cost_less(self):
        # 8 lies behind a road at 515, and behind four at 4, 10, 10 and what 21 says.
        calls = TWO + [told(9, (5, 1), (20, 10)), told(20, (9, 1), (21, 10)), told(8, (5, 1), (21, 1))]
        self.assertEqual(last(*calls, told(21, (8, 1), (20, 1)), far(8)), [25])
        self.assertEqual(last(*calls, told(21, (8, 490), (20, 1)), far(8)), [514])
        self.assertEqual(last(*calls, told(21, (8, 492), (20, 1)), far(8)), [515])

    def test_both_cost_the_same(self):
        calls = TWO + [told(9, (5, 1), (8, 511)), told(8, (5, 1), (9, 1))]
        self.assertEqual(ask(*calls, far(8), far(9))[-2:], [[515], [4]])

    def test_a_way_found_first_is_outdone_later(self):
        # From 20 back: 8 is near it but far from 5; 9 is far from it but near to 5.
        calls = [begin(5), line(0, 9, 1), line(1, 8, 100)]
        calls += [told(8, (5, 1), (20, 1)), told(9, (5, 1), (20, 50)), told(20, (8, 1), (9, 1))]
        self.assertEqual(last(*calls, far(20)), [51])

    def test_the_way_back_may_cost_something_else(self):
        # To 20 by 9, though the way back by 8 is the cheaper one.
        calls = [begin(5), line(0, 9, 1), line(1, 8, 100)]
        calls += [told(8, (5, 1), (20, 100)), told(9, (5, 900), (20, 2)), told(20, (8, 1), (9, 900))]
        self.assertEqual(last(*calls, far(20)), [3])

    def test_no_way_leads_through_what_is_cut_off(self):
        calls = TWO + [told(30, (31, 1)), told(31, (30, 1))]
        self.assertEqual(ask(*calls, far(30), far(31))[-2:], [[-1], [-1]])

    def test_ways_that_lead_round(self):
        calls = [begin(0), line(0, 1, 2), line(1, 3, 9)]
        calls += [told(1, (0, 1), (2, 2)), told(2, (1, 1), (3, 2)), told(3, (0, 1), (2, 1))]
        self.assertEqual(ask(*calls, far(1), far(2), far(3))[-3:], [[2], [4], [6]])

    def test_over_sixty_three_roads(self):
        calls = row_of(64, 65535)
        self.assertEqual(last(*calls, far(63)), [63 * 65535])
        given = ask(*calls, *[far(d) for d in range(64)])[len(calls):]
        self.assertEqual(given, [[d * 65535] for d in range(64)])

    def test_over_sixty_three_roads_but_one_is_gone(self):
        calls = row_of(64, 1)
        self.assertEqual(ask(*calls, far(63), far(40))[-2:], [[63], [40]])
        calls += [hear(0, message(40, 2, (39, 1)))]
        self.assertEqual(ask(*calls, far(40), far(41), far(63))[-3:], [[40], [-1], [-1]])


class RefusedTest(unittest.TestCase):
    def test_no_such_router(self):
        for d in (-1, 64, -5, 2147483647, -2147483648):
            self.assertEqual(last(begin(5), far(d)), [-2])
            self.assertEqual(last(*TWO, told(9, (5, 3)), far(d)), [-2])

    def test_the_least_and_the_greatest_name(self):
        self.assertEqual(ask(begin(5), far(0), far(63))[1:], [[-1], [-1]])
        calls = [begin(5), line(0, 0, 65535), line(1, 63, 1), told(0, (5, 1)), told(63, (5, 1))]
        self.assertEqual(ask(*calls, far(0), far(63))[-2:], [[65535], [1]])

    def test_a_refusal_does_nothing(self):
        calls = TWO + [told(9, (5, 3)), far(64)]
        self.assertEqual(ask(*calls, far(9), far(-1), far(9))[-4:], [[-2], [4], [-2], [4]])


if __name__ == "__main__":
    unittest.main()
