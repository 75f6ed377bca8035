"""The interface: how calls are handed in and how answers are told."""

import ast
import copy
import pathlib
import unittest

from cellsheets.workbook import answers
from tests.helper import (
    COLUMNS, NAMES, NEW, ROWS, SHEETS, cells, clear, define, delete, fill, fixed, flat, formula, gone, insert, look,
    move, number, off, put, sheet, text, to_cell,
)


class Answers(unittest.TestCase):
    def test_no_call_has_no_answer(self):
        self.assertEqual(answers([]), [])

    def test_each_answer_has_its_length_before_it(self):
        calls = flat([
            NEW, sheet("A"), sheet("B"), put(1, 2, 3, number(-7)), insert(1, ROWS, 0, 1, 0, 255),
            delete(1, COLUMNS, 0, 1, 0, 4095), move(1, 0, 9, 0, 9, 0, 5, 5), gone(0),
        ])
        self.assertEqual(answers(calls), [1, 0, 1, 0, 1, 1, 1, 0, 1, 0, 1, 0, 1, 0, 1, 0])
        calls = flat([
            sheet("A"), put(0, 2, 3, number(-7)), fill(0, 2, 2, 3, 3, 0, 5, 6, 0, 0),
            define("N", to_cell(1, fixed(5, 0))), look(0, 6, 0), look(0, 7, 0), cells(0, 0, 9, 0, 9), NAMES, SHEETS,
            clear(0, 5, 9, 0, 9), define("N", []), NAMES,
        ])
        self.assertEqual(answers(calls), [
            1, 0, 1, 0, 1, 0, 1, 0, 4, 1, 0, 1, -7, 1, 0, 7, 3, 2, 3, 5, 0, 6, 0, 9, 1, 1, 78, 1, 1, 1, 5, 1, 0,
            4, 1, 0, 1, 65, 1, 2, 1, 0, 1, 0,
        ])

    def test_a_refusal_is_one_number(self):
        calls = flat([gone(0), sheet(""), put(0, 4096, 0, number(1)), sheet("A"), sheet("A")])
        self.assertEqual(answers(calls), [1, -2, 1, -3, 1, -1, 1, 0, 1, -4])

    def test_any_call_may_be_the_first(self):
        self.assertEqual(answers(NEW), [1, 0])
        self.assertEqual(answers(sheet("A")), [1, 0])
        self.assertEqual(answers(gone(0)), [1, -2])
        self.assertEqual(answers(put(0, 0, 0, number(1))), [1, -2])
        self.assertEqual(answers(insert(0, ROWS, 0, 1, 0, 0)), [1, -2])
        self.assertEqual(answers(delete(0, ROWS, 0, 1, 0, 0)), [1, -2])
        self.assertEqual(answers(move(0, 0, 0, 0, 0, 0, 0, 0)), [1, -2])
        self.assertEqual(answers(fill(0, 0, 0, 0, 0, 0, 0, 0, 0, 0)), [1, -2])
        self.assertEqual(answers(clear(0, 0, 0, 0, 0)), [1, -2])
        self.assertEqual(answers(define("N", to_cell(1, fixed(0, 0)))), [1, -3])
        self.assertEqual(answers(look(0, 0, 0)), [1, -2])
        self.assertEqual(answers(cells(0, 0, 0, 0, 0)), [1, -2])
        self.assertEqual(answers(NAMES), [1, 0])
        self.assertEqual(answers(SHEETS), [1, 0])

    def test_an_empty_title_and_an_empty_content(self):
        self.assertEqual(answers([1, 0] + sheet("A") + [3, 0, 0, 0, 0] + gone(0)), [1, -3, 1, 0, 1, -3, 1, 0])

    def test_what_is_handed_in_stays_as_it_was(self):
        calls = flat([
            sheet("A"), put(0, 0, 0, formula(*to_cell(0, fixed(1, 1)))), put(0, 1, 1, text(b"xyz")),
            define("N", to_cell(1, fixed(1, 1))), SHEETS, fill(0, 0, 0, 0, 0, 0, 0, 5, 0, 5), look(0, 1, 1), NAMES,
            insert(0, ROWS, 0, 2, 0, 255), delete(0, ROWS, 3, 1, 0, 255), move(0, 0, 3, 0, 3, 0, 9, 9), NAMES, SHEETS,
            cells(0, 0, 99, 0, 99), clear(0, 0, 10, 0, 10), look(0, 9, 9), gone(0), NAMES, define("N", []), NEW,
        ])
        before = copy.deepcopy(calls)
        answers(calls)
        self.assertEqual(calls, before)

    def test_nothing_is_kept_from_one_time_to_the_next(self):
        calls = flat([sheet("A"), put(0, 4095, 0, number(1)), insert(0, ROWS, 0, 1, 0, 255)])
        self.assertEqual(answers(calls), [1, 0, 1, 0, 1, -5])
        self.assertEqual(answers(calls), [1, 0, 1, 0, 1, -5])
        self.assertEqual(answers(gone(0)), [1, -2])
        calls = flat([sheet("A"), define("N", to_cell(1, fixed(0, 0))), put(0, 0, 0, number(1)), NAMES, SHEETS])
        self.assertEqual(answers(calls), answers(calls))
        self.assertEqual(answers(flat([NAMES, SHEETS, sheet("B"), look(0, 0, 0)])), [1, 0, 1, 0, 1, 0, 1, 0])

    def test_what_is_answered_is_a_list_of_plain_whole_numbers(self):
        told = answers(flat([
            NEW, sheet("A"), put(0, 0, 0, [0, 3, 1]), define("N", to_cell(1, fixed(0, 0))), look(0, 0, 0),
            look(0, 0, 1), cells(0, 0, 9, 0, 9), NAMES, SHEETS, clear(0, 0, 9, 0, 9), gone(0), gone(0),
        ]))
        self.assertIs(type(told), list)
        self.assertEqual({type(item) for item in told}, {int})

    def test_the_largest_numbers_are_refused_like_others(self):
        most = 4294967295
        self.assertEqual(answers(gone(most)), [1, -2])
        self.assertEqual(answers(put(most, most, most, [])), [1, -1])
        self.assertEqual(answers(put(most, 0, 0, [])), [1, -2])
        self.assertEqual(answers(insert(most, 1, most, most, most, most)), [1, -1])
        self.assertEqual(answers(delete(most, 1, most, most, most, most)), [1, -1])
        self.assertEqual(answers(move(most, most, most, most, most, most, most, most)), [1, -1])
        self.assertEqual(answers(fill(*[most] * 10)), [1, -1])
        self.assertEqual(answers(clear(*[most] * 5)), [1, -1])
        self.assertEqual(answers(look(*[most] * 3)), [1, -1])
        self.assertEqual(answers(cells(*[most] * 5)), [1, -1])

    def test_names_and_references_that_are_empty(self):
        self.assertEqual(answers([9, 0, 0]), [1, -3])
        self.assertEqual(answers([9, 1, 65, 0]), [1, -2])

    def test_numbers_of_a_content_may_be_below_0(self):
        calls = flat([sheet("A"), put(0, 3, 3, formula(*to_cell(0, off(-3, -2)))), look(0, 3, 3)])
        self.assertEqual(answers(calls), [1, 0, 1, 0, 8, 1, 1, 1, 0, 0, -3, 0, -2])

    def test_a_refusal_among_calls_that_tell_much_is_one_number(self):
        calls = flat([
            look(0, 0, 0), cells(0, 0, 0, 0, 0), clear(0, 1, 0, 0, 0), cells(0, 0, 4096, 0, 0), NAMES, SHEETS,
        ])
        self.assertEqual(answers(calls), [1, -2, 1, -2, 1, -1, 1, -1, 1, 0, 1, 0])

    def test_as_the_readme_shows_it(self):
        readme = (pathlib.Path(__file__).resolve().parent.parent / "README.md").read_text()
        shown = readme.split("```python\n")[1].split("```")[0]
        calls = ast.literal_eval(shown[shown.index("answers([") + len("answers("):shown.rindex(")")])
        self.assertEqual(answers(calls), ast.literal_eval(shown[shown.rindex("# [") + 2:].strip()))

    def test_three_hundred_calls(self):
        calls = flat([sheet("A")] + [put(0, row, 0, number(row)) for row in range(299)])
        self.assertEqual(answers(calls), [1, 0] * 300)


if __name__ == "__main__":
    unittest.main()
