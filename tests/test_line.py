"""Point 2: ro_line."""

import unittest

from tests.helper import (
    MOST_NUMBER, all_known, begin, following, hear, last, line, message, names_waiting, waiting)

UP = line(0, 9, 4)


class UpAndDownTest(unittest.TestCase):
    def test_every_line_comes_up(self):
        for p in range(8):
            calls = [begin(5), line(p, 9, 4)]
            self.assertEqual(last(*calls), [0])
            self.assertEqual(last(*calls, hear(p, message(7, 1))), [1])
            for other in range(8):
                self.assertEqual(waiting(calls, other), [message(5, 2, (9, 4))] if other == p else [])

    def test_edges_that_are_taken(self):
        for me, nb, cost in ((0, 63, 1), (63, 0, 65535), (1, 0, 65535), (62, 63, 1)):
            for p in (0, 7):
                calls = [begin(me), line(p, nb, cost)]
                self.assertEqual(last(*calls), [0])
                self.assertEqual(waiting(calls, p), [message(me, 2, (nb, cost))])

    def test_a_line_goes_down(self):
        calls = [begin(5), UP, line(1, 8, 2), hear(1, message(20, 3)), line(0, 9, 0)]
        self.assertEqual(last(*calls), [0])
        self.assertEqual(last(*calls, following(0)), [-1])
        self.assertEqual(last(*calls, hear(0, message(7, 1))), [-1])
        # What's told anew then waits on the lines that are still up alone.
        self.assertEqual(waiting(calls, 1), [message(5, 4, (8, 2))])

    def test_a_line_goes_down_whatever_neighbour_is_named(self):
        calls = [begin(5), UP, line(1, 8, 2), line(0, 33, 0)]
        self.assertEqual(last(*calls), [0])
        self.assertEqual(waiting(calls, 0), [])
        self.assertEqual(waiting(calls, 1), [message(5, 4, (8, 2))])
        self.assertEqual(last(*calls, hear(0, message(7, 1))), [-1])

    def test_going_down_once_more_tells_nothing_anew(self):
        calls = [begin(5), UP, line(1, 8, 2), line(0, 9, 0), following(1), line(0, 9, 0), line(6, 9, 0)]
        self.assertEqual(last(*calls), [0])
        self.assertEqual(waiting(calls, 1), [])
        self.assertEqual(all_known(calls, line(1, 8, 2)), [message(5, 4, (8, 2))])

    def test_all_that_is_known_waits_on_a_line_that_comes_up(self):
        calls = [begin(5), UP, hear(0, message(9, 7, (5, 4))), hear(0, message(2, 3)), hear(0, message(63, 1))]
        calls += [following(0), line(1, 8, 2)]
        self.assertEqual(waiting(calls, 1), [
            message(2, 3), message(5, 3, (8, 2), (9, 4)), message(9, 7, (5, 4)), message(63, 1)])
        # On the other line what came from there doesn't wait, but what's told anew does.
        self.assertEqual(waiting(calls, 0), [message(5, 3, (8, 2), (9, 4))])

    def test_a_line_that_was_up_comes_up_anew(self):
        calls = [begin(5), UP, hear(0, message(2, 3)), following(0)]
        self.assertEqual(waiting(calls, 0), [])
        self.assertEqual(last(*calls, UP), [0])
        self.assertEqual(waiting(calls + [UP], 0), [message(2, 3), message(5, 2, (9, 4))])

    def test_coming_up_anew_to_another_neighbour(self):
        calls = [begin(5), UP, line(1, 8, 2), hear(0, message(2, 3)), following(1), following(1), line(0, 10, 6)]
        self.assertEqual(waiting(calls, 0), [message(2, 3), message(5, 4, (8, 2), (10, 6))])
        self.assertEqual(waiting(calls, 1), [message(5, 4, (8, 2), (10, 6))])

    def test_down_and_up_anew(self):
        calls = [begin(5), UP, hear(0, message(2, 3)), line(0, 9, 0), UP]
        self.assertEqual(waiting(calls, 0), [message(2, 3), message(5, 4, (9, 4))])
        self.assertEqual(last(*calls, hear(0, message(7, 1))), [1])

    def test_what_waited_on_other_lines_still_waits_there(self):
        calls = [begin(5), UP, line(1, 8, 2), hear(1, message(2, 3)), line(2, 8, 7)]
        self.assertEqual(names_waiting(calls, 0), [2, 5])
        self.assertEqual(names_waiting(calls, 1), [5])
        self.assertEqual(names_waiting(calls, 2), [2, 5])


class RoadsTest(unittest.TestCase):
    def test_roads_stand_by_rising_names_whatever_their_lines(self):
        calls = [begin(30)]
        for p, nb in enumerate((63, 0, 31, 29, 7, 62, 1, 40)):
            calls.append(line(p, nb, 65535 - p))
        self.assertEqual(waiting(calls, 3), [message(
            30, 9, (0, 65534), (1, 65529), (7, 65531), (29, 65532), (31, 65533), (40, 65528), (62, 65530),
            (63, 65535))])

    def test_of_several_lines_to_one_neighbour_the_least_cost(self):
        calls = [begin(5), line(0, 9, 4), line(1, 9, 3), line(2, 9, 6)]
        self.assertEqual(waiting(calls, 2), [message(5, 3, (9, 3))])
        calls.append(line(1, 9, 0))
        self.assertEqual(waiting(calls, 2), [message(5, 4, (9, 4))])
        calls.append(line(0, 9, 0))
        self.assertEqual(waiting(calls, 2), [message(5, 5, (9, 6))])
        calls.append(line(2, 9, 7))
        self.assertEqual(waiting(calls, 2), [message(5, 6, (9, 7))])

    def test_the_least_cost_is_not_that_of_the_first_or_last_line(self):
        self.assertEqual(waiting([begin(5), line(7, 9, 3), line(0, 9, 8), line(1, 9, 300)], 7)[0],
                         message(5, 2, (9, 3)))
        self.assertEqual(waiting([begin(5), line(0, 9, 3), line(7, 9, 8), line(1, 9, 300)], 7)[0],
                         message(5, 2, (9, 3)))

    def test_a_line_that_is_down_makes_no_road(self):
        calls = [begin(5), line(0, 9, 4), line(1, 9, 3), line(1, 9, 0), line(2, 8, 0)]
        self.assertEqual(waiting(calls, 0), [message(5, 4, (9, 4))])

    def test_told_anew_with_the_next_number_on_all_lines_that_are_up(self):
        calls = [begin(5), line(0, 9, 4), line(1, 8, 2), following(0), following(1), line(2, 20, 1), line(1, 8, 300)]
        new = message(5, 5, (8, 300), (9, 4), (20, 1))
        for p in range(8):
            self.assertEqual(waiting(calls, p), [new] if p < 3 else [])

    def test_not_told_anew_where_the_roads_stay(self):
        before = [begin(5), line(0, 9, 4), line(1, 8, 2), following(0), following(1)]
        # The same line, a line that costs more or as much beside it, and that going down again.
        for same in (line(1, 8, 2), line(2, 9, 5), line(2, 9, 4), line(2, 8, 0)):
            calls = before + [same]
            self.assertEqual(last(*calls), [0])
            self.assertEqual(waiting(calls, 0), [])
            self.assertEqual(waiting(calls + [line(2, 9, 0)], 0), [])
            self.assertEqual(all_known(calls, line(0, 9, 4)), [message(5, 3, (8, 2), (9, 4))])
            self.assertEqual(last(*calls, line(3, 7, 1)), [0])
            self.assertEqual(waiting(calls + [line(3, 7, 1)], 0), [message(5, 4, (7, 1), (8, 2), (9, 4))])

    def test_a_line_that_adds_no_road_still_comes_up(self):
        calls = [begin(5), line(0, 9, 4), line(1, 9, 5)]
        self.assertEqual(waiting(calls, 1), [message(5, 2, (9, 4))])
        self.assertEqual(last(*calls, hear(1, message(20, 1))), [1])

    def test_two_lines_that_change_neighbours_with_one_another(self):
        # One line at a time is other, so it is told anew in between.
        calls = [begin(5), line(0, 9, 4), line(1, 8, 4), line(0, 8, 4), line(1, 9, 4)]
        self.assertEqual(waiting(calls, 0), [message(5, 5, (8, 4), (9, 4))])


class RefusedTest(unittest.TestCase):
    BAD = [(p, 9, 4) for p in (-1, 8, -8, -2147483648, 2147483647)]
    BAD += [(0, nb, 4) for nb in (-1, 64, 5, -2147483648, 2147483647)]
    BAD += [(0, 9, cost) for cost in (-1, 65536, -2147483648, 2147483647)]

    def test_at_each_edge(self):
        for bad in self.BAD:
            self.assertEqual(last(begin(5), line(*bad)), [-2])

    def test_also_where_the_cost_is_0(self):
        for p, nb, cost in self.BAD:
            if 0 <= cost <= 65535:
                self.assertEqual(last(begin(5), UP, line(p, nb, 0)), [-2])

    def test_nothing_is_done_then(self):
        before = [begin(5), UP, line(7, 8, 2), hear(0, message(2, 3)), following(7)]
        going_down = [(p, nb, 0) for p, nb, cost in self.BAD if cost == 4]
        for bad in self.BAD + going_down:
            after = before + [line(*bad)]
            for p in range(8):
                self.assertEqual(waiting(after, p), waiting(before, p))
            self.assertEqual(all_known(after, UP), all_known(before, UP))


class NoNextNumberTest(unittest.TestCase):
    def setUp(self):
        # Others hold the last number but one of it: it outdoes that with the greatest there is.
        self.up = line(0, 9, 4)
        self.before = [begin(5), self.up, line(1, 8, 2), hear(0, message(5, MOST_NUMBER - 1)), following(1)]
        self.own = message(5, MOST_NUMBER, (8, 2), (9, 4))

    def test_the_number_before_the_greatest_has_a_next_one(self):
        calls = [begin(5), self.up, hear(0, message(5, MOST_NUMBER - 2)), line(1, 8, 2)]
        self.assertEqual(last(*calls), [0])
        self.assertEqual(waiting(calls, 0), [self.own])

    def test_refused_and_nothing_done(self):
        self.assertEqual(waiting(self.before, 0), [self.own])
        for bad in (line(2, 7, 1), line(0, 9, 5), line(0, 9, 3), line(0, 9, 0), line(1, 9, 4), line(1, 8, 0)):
            after = self.before + [bad]
            self.assertEqual(last(*after), [-4])
            for p in range(8):
                self.assertEqual(waiting(after, p), waiting(self.before, p))
            for p in range(8):
                self.assertEqual(last(*after, hear(p, message(20, 1))), [1] if p < 2 else [-1])
            # Had the line been set, its roads would be other now, and this would be refused, too.
            self.assertEqual(all_known(after, self.up), [self.own])
            self.assertEqual(last(*after, line(1, 8, 2)), [0])

    def test_not_refused_where_the_roads_stay(self):
        for same in (line(1, 8, 2), line(2, 9, 4), line(2, 9, 5), line(2, 30, 0)):
            calls = self.before + [same]
            self.assertEqual(last(*calls), [0])
            self.assertEqual(waiting(calls, same[1]), [self.own] if same[3] else [])

    def test_out_of_bounds_goes_first(self):
        for bad in ((-1, 7, 1), (8, 7, 1), (2, 64, 1), (2, 5, 1), (2, 7, 65536), (0, 5, 0)):
            self.assertEqual(last(*self.before, line(*bad)), [-2])


if __name__ == "__main__":
    unittest.main()
