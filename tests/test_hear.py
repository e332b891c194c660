"""Point 3: ro_hear, and which messages are well formed."""

import unittest

from tests.helper import (
    MOST_NUMBER, all_known, ask, begin, following, hear, last, line, message, names_waiting, waiting)

UP = line(0, 9, 4)
# Three lines are up, and nothing waits on any of them.
LINES = [begin(5), UP, line(1, 8, 2), line(2, 7, 1)] + [following(p) for p in (0, 1, 2)]
OWN_ROADS = ((7, 1), (8, 2), (9, 4))


def names(calls):
    """Who waits, line by line."""
    return [names_waiting(calls, p) for p in range(8)]


class OfAnotherTest(unittest.TestCase):
    def test_nothing_known(self):
        calls = LINES + [hear(1, message(20, 1, (3, 9)))]
        self.assertEqual(last(*calls), [1])
        self.assertEqual(names(calls), [[20], [], [20], [], [], [], [], []])
        self.assertEqual(waiting(calls, 2), [message(20, 1, (3, 9))])
        self.assertIn(message(20, 1, (3, 9)), all_known(calls, UP))

    def test_nothing_known_and_the_greatest_number(self):
        calls = LINES + [hear(1, message(20, MOST_NUMBER))]
        self.assertEqual(last(*calls), [1])
        self.assertEqual(waiting(calls, 2), [message(20, MOST_NUMBER)])

    def test_a_smaller_number_is_known(self):
        calls = LINES + [hear(1, message(20, 6, (3, 9))), following(0), hear(2, message(20, 7, (4, 1)))]
        self.assertEqual(last(*calls), [1])
        # It came from line 1 at first, and from line 2 now: there it waited, and doesn't any more.
        self.assertEqual(names(calls), [[20], [20], [], [], [], [], [], []])
        self.assertEqual(waiting(calls, 0), [message(20, 7, (4, 1))])
        self.assertEqual(waiting(calls, 1), [message(20, 7, (4, 1))])

    def test_numbers_count_by_all_four_bytes(self):
        for less, more in ((255, 256), (65535, 65536), (16777215, 16777216), (2147483647, 2147483648),
                           (MOST_NUMBER - 1, MOST_NUMBER), (1, 16777216)):
            self.assertEqual(last(*LINES, hear(1, message(20, less)), hear(1, message(20, more))), [1])
            self.assertEqual(last(*LINES, hear(1, message(20, more)), hear(1, message(20, less))), [0])

    def test_the_same_number(self):
        calls = LINES + [hear(1, message(20, 6)), hear(2, message(20, 6))]
        self.assertEqual(last(*calls), [0])
        self.assertEqual(names(calls), [[20], [], [], [], [], [], [], []])

    def test_the_same_number_where_it_does_not_wait(self):
        calls = LINES + [hear(1, message(20, 6)), hear(1, message(20, 6))]
        self.assertEqual(last(*calls), [0])
        self.assertEqual(names(calls), [[20], [], [20], [], [], [], [], []])

    def test_the_same_number_with_other_roads_is_not_taken(self):
        calls = LINES + [hear(1, message(20, 6, (3, 9))), hear(2, message(20, 6, (4, 1)))]
        self.assertEqual(last(*calls), [0])
        self.assertEqual(names(calls), [[20], [], [], [], [], [], [], []])
        self.assertEqual(waiting(calls, 0), [message(20, 6, (3, 9))])

    def test_a_greater_number_is_known(self):
        calls = LINES + [hear(1, message(20, 6, (3, 9))), following(0), following(2), hear(2, message(20, 5))]
        self.assertEqual(last(*calls), [0])
        # Who told something old is told what's known; the others aren't.
        self.assertEqual(names(calls), [[], [], [20], [], [], [], [], []])
        self.assertEqual(waiting(calls, 2), [message(20, 6, (3, 9))])

    def test_a_greater_number_is_known_and_waits_already(self):
        calls = LINES + [hear(1, message(20, 6)), hear(2, message(20, 5)), hear(1, message(20, 1))]
        self.assertEqual(last(*calls), [0])
        self.assertEqual(names(calls), [[20], [20], [20], [], [], [], [], []])

    def test_lines_that_are_down_are_told_nothing(self):
        calls = LINES + [line(0, 9, 0), following(1), following(2), hear(1, message(20, 6))]
        self.assertEqual(names(calls), [[], [], [20], [], [], [], [], []])

    def test_each_router_is_known_by_itself(self):
        calls = LINES + [hear(1, message(20, 6)), hear(1, message(21, 2)), hear(0, message(0, 2)), hear(2, message(63, 1))]
        self.assertEqual(ask(*calls)[-4:], [[1]] * 4)
        self.assertEqual(names(calls)[:3], [[20, 21, 63], [0, 63], [0, 20, 21]])

    def test_its_roads_stay_as_they_are(self):
        # What others tell makes no road of its own, even where it's told of the router itself.
        calls = LINES + [hear(0, message(9, 6, (5, 1), (20, 3)))]
        self.assertEqual(all_known(calls, UP), [message(5, 4, *OWN_ROADS), message(9, 6, (5, 1), (20, 3))])


class OfItselfTest(unittest.TestCase):
    def test_a_smaller_number(self):
        for number in (1, 2, 3):
            for roads in ((), ((9, 4),), OWN_ROADS):
                calls = LINES + [hear(1, message(5, number, *roads))]
                self.assertEqual(last(*calls), [0])
                self.assertEqual(names(calls), [[], [5], [], [], [], [], [], []])
                self.assertEqual(waiting(calls, 1), [message(5, 4, *OWN_ROADS)])

    def test_the_very_same(self):
        calls = LINES + [line(0, 9, 4), line(1, 8, 2), hear(1, message(5, 4, *OWN_ROADS))]
        self.assertEqual(last(*calls), [0])
        self.assertEqual(names(calls), [[5], [], [], [], [], [], [], []])
        self.assertEqual(all_known(calls, UP), [message(5, 4, *OWN_ROADS)])

    def test_the_very_same_where_it_does_not_wait(self):
        calls = LINES + [hear(1, message(5, 4, *OWN_ROADS))]
        self.assertEqual(last(*calls), [0])
        self.assertEqual(names(calls), [[]] * 8)

    def test_the_same_number_with_other_roads(self):
        for roads in ((), OWN_ROADS[:2], ((7, 1), (8, 2), (9, 5)), ((7, 1), (8, 2), (10, 4)), OWN_ROADS + ((20, 1),)):
            calls = LINES + [hear(1, message(5, 4, *roads))]
            self.assertEqual(last(*calls), [1])
            # It's told on all lines that are up, that one too.
            self.assertEqual(names(calls), [[5], [5], [5], [], [], [], [], []])
            self.assertEqual(waiting(calls, 1), [message(5, 5, *OWN_ROADS)])

    def test_a_greater_number(self):
        for number in (5, 6, 255, 256, 70000, 2147483647, MOST_NUMBER - 1):
            for roads in ((), OWN_ROADS):
                calls = LINES + [hear(1, message(5, number, *roads))]
                self.assertEqual(last(*calls), [1])
                self.assertEqual(names(calls), [[5], [5], [5], [], [], [], [], []])
                self.assertEqual(waiting(calls, 0), [message(5, number + 1, *OWN_ROADS)])

    def test_the_next_number_goes_on_from_there(self):
        calls = LINES + [hear(1, message(5, 70000)), line(0, 9, 0)]
        self.assertEqual(waiting(calls, 1), [message(5, 70002, (7, 1), (8, 2))])

    def test_lines_that_are_down_are_told_nothing(self):
        calls = LINES + [line(0, 9, 0), following(1), following(2), hear(1, message(5, 70000))]
        self.assertEqual(names(calls), [[], [5], [5], [], [], [], [], []])

    def test_there_is_no_number_above_the_greatest(self):
        for roads in ((), OWN_ROADS):
            calls = LINES + [hear(0, message(20, 6)), hear(1, message(5, MOST_NUMBER, *roads))]
            self.assertEqual(last(*calls), [-4])
            self.assertEqual(names(calls), [[], [20], [20], [], [], [], [], []])
            self.assertEqual(all_known(calls, UP), [message(5, 4, *OWN_ROADS), message(20, 6)])

    def test_the_greatest_number_where_it_has_that_itself(self):
        before = LINES + [hear(0, message(5, MOST_NUMBER - 1)), following(1)]
        own = message(5, MOST_NUMBER, *OWN_ROADS)
        self.assertEqual(waiting(before, 0), [own])
        same = before + [hear(0, own)]
        self.assertEqual(last(*same), [0])
        self.assertEqual(names(same)[:3], [[], [], [5]])
        other = before + [hear(0, message(5, MOST_NUMBER))]
        self.assertEqual(last(*other), [-4])
        self.assertEqual(names(other)[:3], [[5], [], [5]])
        self.assertEqual(waiting(other, 0), [own])
        smaller = before + [hear(1, message(5, MOST_NUMBER - 1, *OWN_ROADS))]
        self.assertEqual(last(*smaller), [0])
        self.assertEqual(names(smaller)[:3], [[5], [5], [5]])


class RefusedTest(unittest.TestCase):
    GOOD = message(20, 1)
    BAD = [20]

    def nothing_done(self, before, call):
        self.assertEqual(names(before + [call]), names(before))
        self.assertEqual(all_known(before + [call], UP), all_known(before, UP))

    def test_no_such_line(self):
        for p in (-1, 8, -8, -2147483648, 2147483647):
            for octets in (self.GOOD, self.BAD, message(5, MOST_NUMBER)):
                self.assertEqual(last(*LINES, hear(p, octets)), [-2])
                self.nothing_done(LINES, hear(p, octets))

    def test_a_line_that_is_down(self):
        for p in (3, 4, 5, 6, 7):
            for octets in (self.GOOD, self.BAD, message(5, MOST_NUMBER)):
                self.assertEqual(last(*LINES, hear(p, octets)), [-1])
                self.nothing_done(LINES, hear(p, octets))
        self.assertEqual(last(*LINES, line(1, 8, 0), hear(1, self.GOOD)), [-1])

    def test_not_well_formed(self):
        for octets in (self.BAD, message(20, 0), message(64, MOST_NUMBER)):
            self.assertEqual(last(*LINES, hear(1, octets)), [-3])
            self.nothing_done(LINES + [hear(0, message(20, 4))], hear(1, octets))

    def test_not_well_formed_goes_before_no_such_number(self):
        self.assertEqual(last(*LINES, hear(1, message(5, MOST_NUMBER))), [-4])
        self.assertEqual(last(*LINES, hear(1, message(5, MOST_NUMBER) + [0])), [-3])
        self.assertEqual(last(*LINES, hear(1, message(5, MOST_NUMBER, (5, 1)))), [-3])

    def test_every_length_is_taken_by_the_call(self):
        for length in range(1, 65):
            self.assertEqual(last(*LINES, hear(1, [0] * length)), [-3])
            self.assertEqual(last(*LINES, hear(1, [255] * length)), [-3])


class WellFormedTest(unittest.TestCase):
    def well_formed(self, octets):
        calls = LINES + [hear(1, octets)]
        self.assertEqual(last(*calls), [1], octets)
        # What was heard is told on byte by byte.
        self.assertEqual(waiting(calls, 0), [octets])

    def not_well_formed(self, octets):
        self.assertEqual(last(*LINES, hear(1, octets)), [-3], octets)

    def test_names(self):
        for name in range(64):
            if name != 5:
                self.well_formed(message(name, 1))
        for name in (64, 65, 128, 255):
            self.not_well_formed(message(name, 1))

    def test_how_many_roads(self):
        for many in range(9):
            self.well_formed(message(20, 1, *[(30 + k, 1) for k in range(many)]))
        for many in (9, 10, 16, 19):
            self.not_well_formed(message(20, 1, *[(30 + k, 1) for k in range(many)]))
        for many in (9, 255):
            self.not_well_formed([20, many, 0, 0, 0, 1])

    def test_the_number(self):
        for number in (1, 255, 256, 65536, 16777216, 2147483648, MOST_NUMBER):
            self.well_formed(message(20, number))
            self.well_formed(message(20, number, (3, 1)))
        self.not_well_formed(message(20, 0))
        self.not_well_formed(message(20, 0, (3, 1)))

    def test_the_roads_costs(self):
        for cost in (1, 255, 256, 257, 32768, 65280, 65535):
            self.well_formed(message(20, 1, (3, cost)))
        self.not_well_formed(message(20, 1, (3, 0)))
        self.not_well_formed(message(20, 1, (3, 1), (4, 0)))
        self.not_well_formed(message(20, 1, (3, 0), (4, 1)))
        self.not_well_formed(message(20, 1, *[(30 + k, 1) for k in range(7)], (40, 0)))

    def test_the_roads_names(self):
        self.well_formed(message(20, 1, (0, 1), (63, 1)))
        self.well_formed(message(20, 1, (5, 1)))
        self.well_formed(message(20, 1, (19, 1), (21, 1)))
        for name in (64, 128, 255):
            self.not_well_formed(message(20, 1, (name, 1)))
            self.not_well_formed(message(20, 1, (3, 1), (name, 1)))

    def test_the_roads_names_rise(self):
        self.not_well_formed(message(20, 1, (4, 1), (3, 1)))
        self.not_well_formed(message(20, 1, (3, 1), (3, 1)))
        self.not_well_formed(message(20, 1, (0, 1), (0, 2)))
        self.not_well_formed(message(20, 1, (63, 1), (63, 2)))
        self.not_well_formed(message(20, 1, (1, 1), (2, 1), (2, 1), (3, 1)))
        self.not_well_formed(message(20, 1, (1, 1), (9, 1), (8, 1), (10, 1)))
        self.not_well_formed(message(20, 1, (1, 1), (9, 1), (2, 1), (1, 1)))

    def test_none_of_the_roads_is_its_own(self):
        self.not_well_formed(message(20, 1, (20, 1)))
        self.not_well_formed(message(20, 1, (3, 1), (20, 1), (30, 1)))
        self.not_well_formed(message(0, 1, (0, 1)))
        self.not_well_formed(message(63, 1, (62, 1), (63, 1)))
        # Of itself too, where the very same roads or an old number would else answer 0.
        self.not_well_formed(message(5, 1, (5, 1)))

    def test_too_short(self):
        for whole in (message(20, 1), message(20, 1, (3, 1)), message(20, 1, *[(30 + k, 1) for k in range(8)])):
            for length in range(1, len(whole)):
                self.not_well_formed(whole[:length])

    def test_bytes_left_over(self):
        for whole in (message(20, 1), message(20, 1, (3, 1)), message(20, 1, *[(30 + k, 1) for k in range(8)])):
            for more in range(1, 65 - len(whole)):
                self.not_well_formed(whole + [0] * more)
                self.not_well_formed(whole + [60] * more)

    def test_the_count_is_not_that_of_the_bytes(self):
        whole = message(20, 1, (3, 1), (4, 1))
        for many in (0, 1, 3, 8):
            self.not_well_formed([20, many] + whole[2:])

    def test_the_shortest_and_the_longest(self):
        self.well_formed([20, 0, 0, 0, 0, 1])
        longest = [20, 8, 255, 255, 255, 255]
        for name in range(56, 64):
            longest += [name, 255, 255]
        self.well_formed(longest)

    def test_the_bytes_in_their_order(self):
        # A road's cost and the number tell the higher byte first: so 1 stands last.
        calls = LINES + [hear(1, [20, 1, 0, 0, 1, 2, 3, 0, 1])]
        self.assertEqual(last(*calls, hear(1, message(20, 258))), [0])
        self.assertEqual(last(*calls, hear(1, message(20, 257))), [0])
        self.assertEqual(last(*calls, hear(1, message(20, 259))), [1])
        self.assertEqual(last(*LINES, hear(1, [5, 3, 0, 0, 0, 4, 7, 0, 1, 8, 0, 2, 9, 0, 4])), [0])


if __name__ == "__main__":
    unittest.main()
