"""The interface: how calls are handed in and how answers are told."""

import copy
import unittest

from cellsheets.workbook import answers
from tests.helper import (
    COLUMNS, NEW, ROWS, delete, fixed, flat, formula, gone, insert, move, number, put, sheet, text, to_cell,
)


class Answers(unittest.TestCase):
    def test_no_call_has_no_answer(self):
        self.assertEqual(answers([]), [])

    def test_each_answer_has_its_length_before_it(self):
        calls = flat([
            NEW, sheet("A"), sheet("B"), put(1, 2, 3, number(-7)), insert(1, ROWS, 0, 1, 0, 255),
            delete(1, COLUMNS, 0, 1, 0, 4095), move(1, 0, 9, 0, 9, 0, 5, 5), gone(0),
        ])
        self.assertEqual(answers(calls), [1, 0, 1, 0, 1, 1, 1, 0, 1, 0, 1, 0, 1, 0, 1, 0])

    def test_a_refusal_is_one_number(self):
        calls = flat([gone(0), sheet(""), put(0, 4096, 0, number(1)), sheet("A"), sheet("A")])
        self.assertEqual(answers(calls), [1, -2, 1, -3, 1, -1, 1, 0, 1, -4])

    def test_any_call_may_be_the_first(self):
        self.assertEqual(answers(NEW), [1, 0])
        self.assertEqual(answers(sheet("A")), [1, 0])
        self.assertEqual(answers(gone(0)), [1, -2])
        self.assertEqual(answers(put(0, 0, 0, number(1))), [1, -2])
        self.assertEqual(answers(insert(0, ROWS, 0, 1, 0, 0)), [1, -2])
        self.assertEqual(answers(delete(0, ROWS, 0, 1, 0, 0)), [1, -2])
        self.assertEqual(answers(move(0, 0, 0, 0, 0, 0, 0, 0)), [1, -2])

    def test_an_empty_title_and_an_empty_content(self):
        self.assertEqual(answers([1, 0] + sheet("A") + [3, 0, 0, 0, 0] + gone(0)), [1, -3, 1, 0, 1, -3, 1, 0])

    def test_what_is_handed_in_stays_as_it_was(self):
        calls = flat([
            sheet("A"), put(0, 0, 0, formula(*to_cell(0, fixed(1, 1)))), put(0, 1, 1, text(b"xyz")),
            insert(0, ROWS, 0, 2, 0, 255), delete(0, ROWS, 3, 1, 0, 255), move(0, 0, 3, 0, 3, 0, 9, 9), gone(0), NEW,
        ])
        before = copy.deepcopy(calls)
        answers(calls)
        self.assertEqual(calls, before)

    def test_nothing_is_kept_from_one_time_to_the_next(self):
        calls = flat([sheet("A"), put(0, 4095, 0, number(1)), insert(0, ROWS, 0, 1, 0, 255)])
        self.assertEqual(answers(calls), [1, 0, 1, 0, 1, -5])
        self.assertEqual(answers(calls), [1, 0, 1, 0, 1, -5])
        self.assertEqual(answers(gone(0)), [1, -2])

    def test_what_is_answered_is_a_list_of_plain_whole_numbers(self):
        told = answers(flat([NEW, sheet("A"), gone(0), gone(0)]))
        self.assertIs(type(told), list)
        self.assertEqual({type(item) for item in told}, {int})

    def test_the_largest_numbers_are_refused_like_others(self):
        most = 4294967295
        self.assertEqual(answers(gone(most)), [1, -2])
        self.assertEqual(answers(put(most, most, most, [])), [1, -1])
        self.assertEqual(answers(put(most, 0, 0, [])), [1, -2])
        self.assertEqual(answers(insert(most, 1, most, most, most, most)), [1, -1])
        self.assertEqual(answers(delete(most, 1, most, most, most, most)), [1, -1])
        self.assertEqual(answers(move(most, most, most, most, most, most, most, most)), [1, -1])

    def test_calls_that_are_not_built_yet(self):
        for call in range(7, 14):
            with self.assertRaises(NotImplementedError):
                answers([call] + [0] * 10)

    def test_three_hundred_calls(self):
        calls = flat([sheet("A")] + [put(0, row, 0, number(row)) for row in range(299)])
        self.assertEqual(answers(calls), [1, 0] * 300)


if __name__ == "__main__":
    unittest.main()
