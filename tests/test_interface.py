"""The interface: the form of the answers, and that nothing is changed or kept."""

import unittest

from knownroads.router import answers

# ro_begin 5, ro_line 0 to 9 at 4, ro_hear on 0, ro_next on 0, the rest for 9, and a refusal of each.
CALLS = [
    0, 5,
    0, 64,
    1, 0, 9, 4,
    1, 8, 9, 4,
    2, 0, 9, 9, 1, 0, 0, 0, 7, 5, 0, 4,
    2, 0, 1, 9,
    2, 3, 6, 9, 0, 0, 0, 0, 7,
    3, 0, 65536,
    3, 0, 65536,
    3, 0, 65537,
    2, 0, 6, 9, 0, 0, 0, 0, 6,
    3, 0, 8,
    3, 0, 9,
    4, 9, 9,
    4, 9, 8,
    5, 9,
    5, 64,
    6, 9,
    6, -1,
]
ANSWERS = [
    1, 0,
    1, -2,
    1, 0,
    1, -2,
    1, 1,
    1, -3,
    1, -1,
    10, 9, 5, 1, 0, 0, 0, 2, 9, 0, 4,
    1, -1,
    1, -2,
    1, 0,
    1, -5,
    10, 9, 9, 1, 0, 0, 0, 7, 5, 0, 4,
    10, 9, 9, 1, 0, 0, 0, 7, 5, 0, 4,
    1, -5,
    1, 4,
    1, -2,
    1, 1,
    1, -2,
]


class InterfaceTest(unittest.TestCase):
    def test_the_form_of_the_answers(self):
        self.assertEqual(answers(CALLS), ANSWERS)

    def test_one_call_alone(self):
        self.assertEqual(answers([0, 0]), [1, 0])

    def test_the_numbers_are_whole_numbers_in_a_list(self):
        given = answers(CALLS)
        self.assertIs(type(given), list)
        self.assertEqual({type(number) for number in given}, {int})

    def test_what_is_handed_in_stays(self):
        handed_in = list(CALLS)
        answers(handed_in)
        self.assertEqual(handed_in, CALLS)

    def test_what_is_given_back_is_not_what_is_handed_in(self):
        handed_in = [0, 5]
        given = answers(handed_in)
        given.append(7)
        self.assertEqual(handed_in, [0, 5])
        self.assertEqual(answers(handed_in), [1, 0])

    def test_nothing_is_kept(self):
        self.assertEqual(answers(CALLS), ANSWERS)
        self.assertEqual(answers([0, 5, 3, 0, 65536, 2, 0, 1, 0]), [1, 0, 1, -1, 1, -1])
        self.assertEqual(answers([0, 6, 1, 0, 9, 4, 3, 0, 99]), [1, 0, 1, 0, 10, 9, 6, 1, 0, 0, 0, 2, 9, 0, 4])
        self.assertEqual(answers(CALLS), ANSWERS)

    def test_as_many_calls_as_there_may_be(self):
        calls = [0, 5, 1, 0, 9, 4, 1, 1, 8, 4]
        for number in range(1, 398):
            calls += [2, 0, 30, 20, 8, 0, 0, number >> 8, number & 255]
            for name in range(30, 38):
                calls += [name, 255, 255]
        self.assertLessEqual(len(calls), 30000)
        self.assertEqual(answers(calls), [1, 0] * 3 + [1, 1] * 397)


if __name__ == "__main__":
    unittest.main()
