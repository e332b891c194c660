"""Point 4: ro_next."""

import unittest

from tests.helper import MOST_NUMBER, ask, begin, following, hear, last, line, message, names_waiting

TWO = [begin(5), line(0, 9, 4), line(1, 8, 515)]
SEVERAL = TWO + [hear(0, message(name, name + 1)) for name in (40, 0, 63, 9, 7)]


class NextTest(unittest.TestCase):
    def test_the_bytes_of_the_message(self):
        self.assertEqual(last(*TWO, following(0)), [12, 5, 2, 0, 0, 0, 3, 8, 2, 3, 9, 0, 4])
        self.assertEqual(last(*TWO, following(1)), [12, 5, 2, 0, 0, 0, 3, 8, 2, 3, 9, 0, 4])

    def test_the_shortest_and_the_longest(self):
        calls = [begin(5), line(0, 9, 4), line(1, 9, 4), following(0), hear(1, [0, 0, 1, 2, 3, 4])]
        self.assertEqual(last(*calls, following(0)), [6, 0, 0, 1, 2, 3, 4])
        calls = [begin(63)] + [line(p, p, 65535 - p) for p in range(8)] + [hear(0, message(63, MOST_NUMBER - 1))]
        self.assertEqual(last(*calls, following(7)), [
            30, 63, 8, 255, 255, 255, 255, 0, 255, 255, 1, 255, 254, 2, 255, 253, 3, 255, 252,
            4, 255, 251, 5, 255, 250, 6, 255, 249, 7, 255, 248])

    def test_the_least_name_first(self):
        told = ask(*SEVERAL, *[following(1)] * 7)[len(SEVERAL):]
        self.assertEqual([answer[1] for answer in told[:6]], [0, 5, 7, 9, 40, 63])
        self.assertEqual(told[6], [-1])
        self.assertEqual(told[0], [6, 0, 0, 0, 0, 0, 1])
        self.assertEqual(told[4], [6, 40, 0, 0, 0, 0, 41])

    def test_one_with_a_lesser_name_that_comes_later_goes_ahead(self):
        calls = SEVERAL + [following(1), following(1), hear(0, message(3, 8))]
        self.assertEqual(names_waiting(calls, 1), [3, 7, 9, 40, 63])

    def test_it_does_not_wait_there_any_more(self):
        self.assertEqual(ask(*TWO, following(0), following(0))[-1], [-1])

    def test_it_still_waits_on_the_other_lines(self):
        self.assertEqual(names_waiting(SEVERAL + [following(1)] * 6, 0), [5])
        self.assertEqual(names_waiting(TWO + [following(0)], 1), [5])

    def test_what_is_told_is_still_known(self):
        calls = SEVERAL + [following(1)] * 6
        self.assertEqual(names_waiting(calls, 1), [])
        self.assertEqual(names_waiting(calls + [line(2, 8, 600)], 2), [0, 5, 7, 9, 40, 63])

    def test_what_is_known_by_then_is_told(self):
        calls = TWO + [hear(0, message(20, 1)), hear(0, message(20, 2, (3, 1))), following(1)]
        self.assertEqual(last(*calls, following(1)), [9] + message(20, 2, (3, 1)))
        self.assertEqual(ask(*calls, following(1), following(1))[-1], [-1])


class RefusedTest(unittest.TestCase):
    def test_nobody_waits(self):
        for p in range(8):
            self.assertEqual(last(begin(5), following(p)), [-1])
        for p in range(2, 8):
            self.assertEqual(last(*TWO, following(p)), [-1])
        self.assertEqual(last(*TWO, line(0, 9, 0), following(0)), [-1])

    def test_more_than_most(self):
        for most in (0, 1, 6, 11):
            self.assertEqual(last(*TWO, following(0, most)), [-5])
        for most in (12, 13, 65535, 65536):
            self.assertEqual(last(*TWO, following(0, most))[0], 12)

    def test_what_was_refused_still_waits(self):
        calls = SEVERAL + [following(1, 5), following(1, 0)]
        self.assertEqual(ask(*calls)[-2:], [[-5], [-5]])
        self.assertEqual(names_waiting(calls, 1), [0, 5, 7, 9, 40, 63])

    def test_a_longer_one_is_not_passed_over(self):
        calls = SEVERAL + [following(1, 6), following(1, 6)]
        self.assertEqual(ask(*calls)[-2:], [[6, 0, 0, 0, 0, 0, 1], [-5]])

    def test_no_such_line_and_most_too_great(self):
        for p in (-1, 8, -8, -2147483648, 2147483647):
            self.assertEqual(last(*TWO, following(p)), [-2])
        for most in (65537, 70000, 4294967295):
            self.assertEqual(last(*TWO, following(0, most)), [-2])
            self.assertEqual(names_waiting(TWO + [following(0, most)], 0), [5])

    def test_which_goes_first(self):
        # -2 before -1, and before -5.
        self.assertEqual(last(begin(5), following(8)), [-2])
        self.assertEqual(last(begin(5), following(3, 65537)), [-2])
        self.assertEqual(last(*TWO, following(-1, 0)), [-2])
        # -1 before -5.
        self.assertEqual(last(begin(5), following(3, 0)), [-1])
        self.assertEqual(last(*TWO, following(3, 0)), [-1])


if __name__ == "__main__":
    unittest.main()
