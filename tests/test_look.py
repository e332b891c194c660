"""Point 5: ro_look."""

import unittest

from tests.helper import (
    MOST_NUMBER, ask, begin, far, following, hear, last, line, look, message, names_waiting, ways)

TWO = [begin(5), line(0, 9, 4), line(1, 8, 515)]
SEVERAL = TWO + [hear(0, message(name, name + 1)) for name in (40, 0, 63, 9, 7)]


class LookTest(unittest.TestCase):
    def test_the_router_itself(self):
        self.assertEqual(last(begin(5), look(5)), [6, 5, 0, 0, 0, 0, 1])
        self.assertEqual(last(*TWO[:2], look(5)), [9, 5, 1, 0, 0, 0, 2, 9, 0, 4])
        self.assertEqual(last(*TWO, look(5)), [12, 5, 2, 0, 0, 0, 3, 8, 2, 3, 9, 0, 4])
        self.assertEqual(last(*TWO, line(0, 9, 0), look(5)), [9, 5, 1, 0, 0, 0, 4, 8, 2, 3])

    def test_the_least_and_the_greatest_name(self):
        for me in (0, 63):
            self.assertEqual(last(begin(me), look(me)), [6, me, 0, 0, 0, 0, 1])
        self.assertEqual(last(*SEVERAL, look(0)), [6, 0, 0, 0, 0, 0, 1])
        self.assertEqual(last(*SEVERAL, look(63)), [6, 63, 0, 0, 0, 0, 64])

    def test_the_router_itself_after_it_told_its_roads_anew(self):
        calls = TWO + [hear(0, message(5, 70000, (9, 4)))]
        self.assertEqual(last(*calls, look(5)), [12, 5, 2, 0, 1, 17, 113, 8, 2, 3, 9, 0, 4])

    def test_the_cheapest_of_several_lines(self):
        calls = [begin(5), line(0, 9, 4), line(1, 9, 3), line(2, 9, 5)]
        self.assertEqual(last(*calls, look(5)), [9, 5, 1, 0, 0, 0, 3, 9, 0, 3])

    def test_another(self):
        told = message(20, 258, (1, 65535), (19, 256), (63, 1))
        self.assertEqual(last(*TWO, hear(0, told), look(20)), [15] + told)
        self.assertEqual(last(*TWO, hear(0, told), look(20)), [
            15, 20, 3, 0, 0, 1, 2, 1, 255, 255, 19, 1, 0, 63, 0, 1])

    def test_the_shortest_and_the_longest(self):
        self.assertEqual(last(*TWO, hear(0, [0, 0, 1, 2, 3, 4]), look(0)), [6, 0, 0, 1, 2, 3, 4])
        told = message(63, MOST_NUMBER, *[(name, 65535 - name) for name in range(8)])
        self.assertEqual(last(*TWO, hear(0, told), look(63)), [30] + told)

    def test_the_newest_is_told(self):
        calls = TWO + [hear(0, message(20, 2, (3, 1))), hear(1, message(20, 1, (4, 1)))]
        self.assertEqual(last(*calls, look(20)), [9] + message(20, 2, (3, 1)))
        calls += [hear(1, message(20, 2, (4, 1)))]
        self.assertEqual(last(*calls, look(20)), [9] + message(20, 2, (3, 1)))
        calls += [hear(1, message(20, 3))]
        self.assertEqual(last(*calls, look(20)), [6] + message(20, 3))

    def test_it_is_known_though_no_line_is_up_any_more(self):
        calls = SEVERAL + [line(0, 9, 0), line(1, 8, 0)]
        self.assertEqual(last(*calls, look(40)), [6, 40, 0, 0, 0, 0, 41])
        self.assertEqual(last(*calls, look(5)), [6, 5, 0, 0, 0, 0, 5])

    def test_what_waits_still_waits(self):
        looks = [look(x) for x in (5, 0, 40, 63, 9, 7, 1, 64)] + [look(40, 5), look(40, 65537)]
        for p in (0, 1):
            self.assertEqual(names_waiting(SEVERAL + looks, p), names_waiting(SEVERAL, p))
        self.assertEqual(names_waiting(SEVERAL + looks, 1), [0, 5, 7, 9, 40, 63])

    def test_what_was_told_does_not_wait_again(self):
        calls = SEVERAL + [following(1), look(0), following(1), look(5)]
        self.assertEqual(names_waiting(calls, 1), [7, 9, 40, 63])

    def test_the_same_comes_again(self):
        calls = SEVERAL + [look(40)] * 3 + [far(40), ways(40), look(40)]
        given = ask(*calls)[len(SEVERAL):]
        self.assertEqual([given[at] for at in (0, 1, 2, 5)], [[6, 40, 0, 0, 0, 0, 41]] * 4)


class RefusedTest(unittest.TestCase):
    def test_nothing_is_known_of_it(self):
        for x in range(64):
            self.assertEqual(last(begin(5), look(x)), [-1] if x != 5 else [6, 5, 0, 0, 0, 0, 1])
        # That a road leads to it tells nothing of it.
        self.assertEqual(last(*TWO, look(9)), [-1])
        self.assertEqual(last(*TWO, hear(0, message(20, 1, (21, 1))), look(21)), [-1])

    def test_nothing_is_known_of_it_after_a_refusal(self):
        refused = [hear(2, message(20, 1)), hear(8, message(20, 1)), hear(0, message(20, 0)), hear(0, [20, 0, 0, 0, 1])]
        self.assertEqual(ask(*TWO, *refused, look(20))[3:], [[-1], [-2], [-3], [-3], [-1]])

    def test_nothing_is_known_of_it_after_ro_begin_came_again(self):
        self.assertEqual(last(*SEVERAL, begin(6), look(40)), [-1])
        self.assertEqual(last(*SEVERAL, begin(6), look(5)), [-1])
        self.assertEqual(last(*SEVERAL, begin(5), look(5)), [6, 5, 0, 0, 0, 0, 1])
        self.assertEqual(last(*SEVERAL, begin(64), look(40)), [6, 40, 0, 0, 0, 0, 41])

    def test_more_than_most(self):
        for most in (0, 1, 6, 11):
            self.assertEqual(last(*TWO, look(5, most)), [-5])
        for most in (12, 13, 65535, 65536):
            self.assertEqual(last(*TWO, look(5, most)), [12, 5, 2, 0, 0, 0, 3, 8, 2, 3, 9, 0, 4])
        told = message(63, 7, *[(name, 1) for name in range(8)])
        self.assertEqual(last(*TWO, hear(0, told), look(63, 29)), [-5])
        self.assertEqual(last(*TWO, hear(0, told), look(63, 30)), [30] + told)
        self.assertEqual(last(begin(5), look(5, 5)), [-5])
        self.assertEqual(last(begin(5), look(5, 6)), [6, 5, 0, 0, 0, 0, 1])

    def test_no_such_router_and_most_too_great(self):
        for x in (-1, 64, -5, -2147483648, 2147483647):
            self.assertEqual(last(*SEVERAL, look(x)), [-2])
        for most in (65537, 70000, 4294967295):
            self.assertEqual(last(*SEVERAL, look(5, most)), [-2])

    def test_which_goes_first(self):
        # -2 before -1, and before -5.
        self.assertEqual(last(begin(5), look(9, 65537)), [-2])
        self.assertEqual(last(begin(5), look(64, 0)), [-2])
        self.assertEqual(last(begin(5), look(-1, 65537)), [-2])
        # -1 before -5.
        self.assertEqual(last(begin(5), look(9, 0)), [-1])


if __name__ == "__main__":
    unittest.main()
