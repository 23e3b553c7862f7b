"""The interface: one list in, one list back."""

import unittest

from sidebysideyard.beads import answers
from tests.lines import LAY, cost, costs, fix, free, plain, texts

CALLS = [
    costs((1, 2, 3, 4, 5, 6), 150, 2, 7),
    texts([(10, 3, 3), (20,)], [(15, 3), (30, 9)]),
    fix(0, 0),
    fix(0, 0),
    LAY,
    cost((1, 1), (1, 1)),
    cost((1, 0)),
    free(0, 0),
    free(0, 0),
    costs(share=0),
    texts(plain(1000), []),
    fix(2, 0),
    LAY,
]
LINE = [number for call in CALLS for number in call]
ANSWERED = [
    1, 0,
    2, 2, 2,
    1, 16,
    1, -4,
    6, 16, 2, 1, 1, 1, 1,
    1, 16,
    1, -1,
    1, 16,
    1, -2,
    1, -1,
    1, -1,
    1, -2,
    6, 16, 2, 1, 1, 1, 1,
]


class Answers(unittest.TestCase):
    def test_one_list_of_how_many_and_these(self):
        self.assertEqual(answers(LINE), ANSWERED)

    def test_the_line_that_readme_tells(self):
        line = [1, 3, 2, 12, 10, 1, 7, 20, 0, 31, 0, 28, 1, 7, 33, 0, 4, 2, 1, 1]
        self.assertEqual(answers(line), [2, 3, 2, 6, 9, 2, 2, 1, 1, 1, 1, 41])

    def test_whole_numbers_alone(self):
        self.assertIs(type(answers(LINE)), list)
        self.assertEqual({type(number) for number in answers(LINE)}, {int})

    def test_what_is_handed_in_stays_as_it_was(self):
        line = list(LINE)
        answers(line)
        self.assertEqual(line, LINE)

    def test_what_is_given_back_is_a_list_of_its_own(self):
        line = list(LINE)
        answers(line).clear()
        self.assertEqual(answers(line), ANSWERED)

    def test_a_second_time_is_as_the_first(self):
        self.assertEqual(answers(LINE), ANSWERED)
        self.assertEqual(answers(LINE), ANSWERED)

    def test_nothing_is_kept_from_one_line_to_the_next(self):
        answers(costs((9,) * 6, 999, 99, 999) + texts(plain(1, 1), plain(1, 1)) + fix(0, 1))
        self.assertEqual(answers(LAY), [2, 0, 0])
        self.assertEqual(answers(texts(plain(1, 1), plain(1, 1)) + free(0, 1) + LAY),
                         [2, 2, 2, 1, -2, 6, 0, 2, 1, 1, 1, 1])

    def test_thirty_calls(self):
        self.assertEqual(answers(LAY * 30), [2, 0, 0] * 30)

    def test_thirty_calls_on_full_texts(self):
        full = [(length * 37 % 1000, length, 7, 7, length * 3) for length in range(14)]
        line = texts(full, full[::-1])
        told = answers(line + LAY * 29)
        self.assertEqual(told[:3], [2, 14, 14])
        self.assertEqual(told[3:], (answers(line + LAY)[3:]) * 29)


if __name__ == "__main__":
    unittest.main()
