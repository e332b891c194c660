"""Point 1: ro_begin."""

import unittest

from tests.helper import all_known, ask, begin, following, hear, last, line, message, waiting


class BeginTest(unittest.TestCase):
    def test_every_name_from_0_to_63(self):
        for me in range(64):
            self.assertEqual(ask(begin(me)), [[0]])

    def test_other_names_are_refused(self):
        for me in (-1, 64, -64, 65, 256, -2147483648, 2147483647):
            self.assertEqual(ask(begin(3), begin(me)), [[0], [-2]])

    def test_at_first_no_line_is_up_and_nothing_waits(self):
        for p in range(8):
            self.assertEqual(last(begin(5), hear(p, message(7, 1))), [-1])
            self.assertEqual(last(begin(5), following(p)), [-1])

    def test_at_first_it_knows_number_1_and_no_roads_of_itself_alone(self):
        # The number that follows 1 is 2; nothing but itself waits on the first line.
        self.assertEqual(waiting([begin(5), line(0, 9, 4)], 0), [[5, 1, 0, 0, 0, 2, 9, 0, 4]])
        # Without roads nothing is told anew: a line that was down and goes down tells nothing.
        self.assertEqual(waiting([begin(5), line(1, 8, 0), line(0, 9, 4)], 0), [message(5, 2, (9, 4))])

    def test_coming_again_makes_all_as_at_first(self):
        before = [begin(5), line(0, 9, 4), line(3, 8, 2), hear(0, message(9, 7, (5, 4)))]
        for me in (5, 6, 0, 63):
            again = before + [begin(me)]
            self.assertEqual(last(*again), [0])
            for p in range(8):
                self.assertEqual(last(*again, following(p)), [-1])
                self.assertEqual(last(*again, hear(p, message(7, 1))), [-1])
            self.assertEqual(waiting(again + [line(1, 20, 3)], 1), [message(me, 2, (20, 3))])
            self.assertEqual(waiting(again + [line(1, 20, 3)], 0), [])

    def test_coming_again_gives_the_new_name(self):
        calls = [begin(5), begin(6)]
        self.assertEqual(last(*calls, line(0, 6, 1)), [-2])
        self.assertEqual(last(*calls, line(0, 5, 1)), [0])

    def test_a_refused_one_changes_nothing(self):
        up = line(0, 9, 4)
        before = [begin(5), up, hear(0, message(9, 7, (5, 4))), line(3, 8, 2)]
        for me in (-1, 64):
            after = before + [begin(me)]
            self.assertEqual(last(*after), [-2])
            for p in range(8):
                self.assertEqual(waiting(after, p), waiting(before, p))
            self.assertEqual(all_known(after, up), all_known(before, up))
            self.assertEqual(last(*after, line(2, 5, 1)), [-2])


if __name__ == "__main__":
    unittest.main()
