"""The interface: one list in, one list back."""

import unittest

from sidebysideyard.beads import answers
from tests.lines import (
    LAY, SHOWS, ask, bead_of, cost, costs, fix, free, laid, plain, put, shown, take, texts, try_pair,
)

CALLS = [
    costs((1, 2, 3, 4, 5, 6), 150, 2, 7),
    texts([(10, 3, 3), (20,)], [(15, 3), (30, 9)]),
    fix(0, 0),
    fix(0, 0),
    LAY,
    cost((1, 1), (1, 1)),
    cost((1, 0)),
    free(0, 0),
    free(0, 0),
    costs(share=0),
    texts(plain(1000), []),
    fix(2, 0),
    LAY,
    try_pair(0, 1),
    try_pair(0, 2),
    bead_of(1, 1),
    bead_of(2, 0),
    fix(0, 0),
    put(0, 0, 50, 9),
    put(0, 4, 50),
    SHOWS,
    take(0, 1),
    take(1, 2),
    SHOWS,
]
LINE = [number for call in CALLS for number in call]
ANSWERED = [
    1, 0,
    2, 2, 2,
    1, 16,
    1, -4,
    6, 16, 2, 1, 1, 1, 1,
    1, 16,
    1, -1,
    1, 16,
    1, -2,
    1, -1,
    1, -1,
    1, -2,
    6, 16, 2, 1, 1, 1, 1,
    2, 18, 2,
    1, -2,
    5, 1, 1, 2, 1, 2,
    1, -2,
    1, 16,
    8, 28, 3, 1, 0, 1, 1, 1, 1,
    1, -1,
    5, 3, 2, 1, 1, 0,
    8, 33, 3, 1, 0, 0, 1, 1, 1,
    1, -2,
    3, 2, 2, 0,
]


class Answers(unittest.TestCase):
    def test_one_list_of_how_many_and_these(self):
        self.assertEqual(answers(LINE), ANSWERED)

    def test_the_line_that_readme_tells(self):
        line = [1, 3, 2, 12, 10, 1, 7, 20, 0, 31, 0, 28, 1, 7, 33, 0, 4, 2, 1, 1, 8, 1, 1, 19, 0, 10]
        self.assertEqual(answers(line), [
            2, 3, 2, 6, 9, 2, 2, 1, 1, 1, 1, 41, 6, 27, 2, 1, 1, 2, 2, 5, 3, 3, 1, 1, 2,
        ])

    def test_whole_numbers_alone(self):
        self.assertIs(type(answers(LINE)), list)
        self.assertEqual({type(number) for number in answers(LINE)}, {int})

    def test_what_is_handed_in_stays_as_it_was(self):
        line = list(LINE)
        answers(line)
        self.assertEqual(line, LINE)

    def test_what_is_given_back_is_a_list_of_its_own(self):
        line = list(LINE)
        answers(line).clear()
        self.assertEqual(answers(line), ANSWERED)

    def test_a_second_time_is_as_the_first(self):
        self.assertEqual(answers(LINE), ANSWERED)
        self.assertEqual(answers(LINE), ANSWERED)

    def test_nothing_is_kept_from_one_line_to_the_next(self):
        answers(costs((9,) * 6, 999, 99, 999) + texts(plain(1, 1), plain(1, 1)) + fix(0, 1))
        self.assertEqual(answers(LAY), [2, 0, 0])
        self.assertEqual(answers(texts(plain(1, 1), plain(1, 1)) + free(0, 1) + LAY),
                         [2, 2, 2, 1, -2, 6, 0, 2, 1, 1, 1, 1])

    def test_what_put_and_take_change_is_not_kept(self):
        line = put(0, 0, 5, 1) + put(1, 0, 5) + fix(0, 0) + take(1, 0) + SHOWS
        first = answers(line)
        self.assertEqual(first, [4, 22, 1, 1, 0, 4, 10, 1, 1, 1, 1, 10, 4, 22, 1, 1, 0, 3, 1, 0, 0])
        self.assertEqual(answers(line), first)
        self.assertEqual(answers(SHOWS), [3, 0, 0, 0])

    def test_thirty_calls(self):
        self.assertEqual(answers(LAY * 30), [2, 0, 0] * 30)

    def test_thirty_calls_of_all_kinds(self):
        self.assertGreaterEqual({call[0] for call in CALLS}, set(range(11)))
        thirty = CALLS[:3] + [put(0, 2, 20), put(1, 2, 30), SHOWS] * 9
        told = ask(*thirty)
        self.assertEqual(len(told), 30)
        self.assertEqual(told[-1], shown(11, 11, (0, 0)))
        self.assertEqual(told[-2], laid(16 + 9, *[(1, 1)] * 11))

    def test_thirty_calls_on_full_texts(self):
        full = [(length * 37 % 1000, length, 7, 7, length * 3) for length in range(14)]
        line = texts(full, full[::-1])
        told = answers(line + LAY * 29)
        self.assertEqual(told[:3], [2, 14, 14])
        self.assertEqual(told[3:], (answers(line + LAY)[3:]) * 29)


if __name__ == "__main__":
    unittest.main()
