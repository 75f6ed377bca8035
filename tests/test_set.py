"""Promise 2: set, and what is a content."""

import unittest

from tests.helper import (
    BookCase, all_of, fixed, flat, formula, gone, name, number, off, perform, put, standing, text, to_area, to_cell,
)

MOST = 10 ** 36 - 1
ONE = [0, 1, 1]


class SetCase(BookCase):
    def assert_taken(self, content, row=100, column=100):
        self.assertEqual(perform(self.book, [put(0, row, column, content)]), [[0]], content[:40])
        self.assert_stands(0, row, column, content)

    def assert_no_content(self, content, row=100, column=100):
        self.assert_refused(-3, put(0, row, column, content))

    def assert_each_number_counts(self, content):
        """That it is a content, but none with a number too few or too many."""
        self.assert_taken(content)
        for end in range(len(content)):
            self.assert_no_content(content[:end])
        for more in (0, 1, 5):
            self.assert_no_content(content + [more])


class Places(SetCase):
    def test_the_edges_of_a_sheet(self):
        self.assert_taken(number(1), 0, 0)
        self.assert_taken(number(2), 4095, 255)
        self.assert_refused(-1, put(0, 4096, 0, number(1)))
        self.assert_refused(-1, put(0, 0, 256, number(1)))
        self.assert_refused(-1, put(0, 4294967295, 4294967295, number(1)))

    def test_a_sheet_that_is_not_there(self):
        self.assert_refused(-2, put(3, 0, 0, number(1)))
        self.assert_refused(-2, put(64, 0, 0, number(1)))
        self.done(gone(0))
        self.assert_refused(-2, put(0, 0, 0, number(1)))

    def test_order_of_refusals(self):
        self.assert_refused(-1, put(9, 4096, 0, []))
        self.assert_refused(-1, put(9, 0, 256, []))
        self.assert_refused(-2, put(9, 0, 0, []))
        self.assert_refused(-3, put(0, 0, 0, []))


class Standing(SetCase):
    def test_it_stands_in_the_cell_alone(self):
        self.done(put(1, 2, 3, number(5)))
        self.assert_all({(1, 2, 3): number(5)})

    def test_it_stands_in_the_place_of_what_stood_there(self):
        self.done(put(1, 2, 3, number(5)), put(1, 2, 3, formula(*ONE)))
        self.assert_all({(1, 2, 3): formula(*ONE)})

    def test_empty_leaves_nothing(self):
        self.done(put(1, 2, 3, number(5)), put(1, 2, 4, number(6)), put(1, 2, 3, [0, 0]))
        self.assert_all({(1, 2, 4): number(6)})
        self.done(put(1, 2, 3, [0, 0]))
        self.assert_all({(1, 2, 4): number(6)})


class Values(SetCase):
    def test_kinds(self):
        for content in ([], [-1], [2], [2, 0], [0], [1], [0, -1], [0, -1, 1], [0, 5], [0, 5, 1], [-1, 1, 1], [0, 0, 0]):
            self.assert_no_content(content)
        self.assertEqual(perform(self.book, [put(0, 0, 0, [0, 0])]), [[0]])

    def test_numbers(self):
        for z in (0, 1, -1, MOST, -MOST):
            self.assert_each_number_counts(number(z))
        for z in (MOST + 1, -MOST - 1, 2 ** 127 - 1, -2 ** 127):
            self.assert_no_content(number(z))

    def test_texts(self):
        self.assert_each_number_counts(text(b""))
        self.assert_each_number_counts(text("a\u00e9\u20ac\U0001f600".encode()))
        self.assert_taken(text(b"\x00\x1f\x7f"))
        self.assert_taken(text(b"x" * 4096))
        self.assert_no_content(text(b"x" * 4097))
        self.assert_no_content([0, 2, -1])
        for octets in (b"\xff", b"\xc0\x80", b"\xed\xa0\x80", b"\xf4\x90\x80\x80", b"\xe2\x82"):
            self.assert_no_content(text(octets))
        for octet in (-1, 256, 2 ** 127 - 1):
            self.assert_no_content([0, 2, 1, octet])

    def test_truths(self):
        self.assert_each_number_counts([0, 3, 0])
        self.assert_each_number_counts([0, 3, 1])
        self.assert_no_content([0, 3, -1])
        self.assert_no_content([0, 3, 2])

    def test_errors(self):
        for which in range(1, 9):
            self.assert_each_number_counts([0, 4, which])
        self.assert_no_content([0, 4, 0])
        self.assert_no_content([0, 4, 9])
        self.assert_no_content([0, 4, -1])


class Formulas(SetCase):
    def test_kinds(self):
        for kind in (-1, 9, 10, 2 ** 127 - 1):
            self.assert_no_content(formula(kind))
            self.assert_no_content(formula(kind, 1, 1))
            self.assert_no_content(formula(kind, 1, 1, 1, 7))

    def test_values(self):
        for value in (number(MOST), text(b""), text(b"x" * 4096), [0, 3, 1], [0, 4, 8]):
            self.assert_taken(formula(*value))
        self.assert_each_number_counts(formula(0, 1, -5))
        for value in ([0, 0], number(MOST + 1), text(b"\xff"), text(b"x" * 4097), [0, 3, 2], [0, 4, 9], [0, 5, 0]):
            self.assert_no_content(formula(*value))

    def test_names(self):
        for letters in ("A", "Z", "_", "A0", "Z9.", "_._", "Q" * 64):
            self.assert_taken(formula(3, *name(letters)))
            self.assert_taken(formula(7, *name(letters), 0))
            self.assert_taken(formula(4, *name(letters), 1, 65, 0))
        for letters in ("", "0", "9A", ".", ".A", "a", "Aa", "A-", "A ", "A@", "A[", "A/", "A:", "A^", "A`",
                        "A\u00c0", "@A", "[A", "Q" * 65):
            self.assert_no_content(formula(3, *name(letters)))
            self.assert_no_content(formula(7, *name(letters), 0))
            self.assert_no_content(formula(4, *name(letters), 1, 65, 0))
        self.assert_each_number_counts(formula(3, *name("A_B.9")))
        self.assert_no_content(formula(3, -1))

    def test_columns_of_tables(self):
        self.assert_each_number_counts(formula(4, *name("T"), 2, 0xC3, 0xA9, 9))
        for part in range(10):
            self.assert_taken(formula(4, *name("T"), 1, 65, part))
        for part in (-1, 10):
            self.assert_no_content(formula(4, *name("T"), 1, 65, part))
        self.assert_taken(formula(4, *name("T"), 64, *[65] * 64, 0))
        self.assert_taken(formula(4, *name("T"), 2, 0, 31, 0))
        self.assert_no_content(formula(4, *name("T"), 65, *[65] * 65, 0))
        self.assert_no_content(formula(4, *name("T"), 0, 0))
        self.assert_no_content(formula(4, *name("T"), 1, 0xC3, 0))
        self.assert_no_content(formula(4, *name("T"), 1, 256, 0))

    def test_operations_on_one(self):
        for operation in (20, 21, 22):
            self.assert_each_number_counts(formula(5, operation, *ONE))
        for operation in (-1, 0, 1, 12, 19, 23):
            self.assert_no_content(formula(5, operation, *ONE))
        self.assert_no_content(formula(5, 20, *ONE, *ONE))

    def test_operations_on_two(self):
        for operation in range(1, 13):
            self.assert_taken(formula(6, operation, *ONE, *ONE))
        self.assert_each_number_counts(formula(6, 12, *ONE, 0, 3, 0))
        for operation in (-1, 0, 13, 20, 22):
            self.assert_no_content(formula(6, operation, *ONE, *ONE))
        self.assert_no_content(formula(6, 1, *ONE))
        self.assert_no_content(formula(6, 1, *ONE, *ONE, *ONE))

    def test_functions(self):
        self.assert_each_number_counts(formula(7, *name("F"), 0))
        self.assert_each_number_counts(formula(7, *name("SUM"), 2, *ONE, 7, *name("G"), 1, *ONE))
        self.assert_taken(formula(7, *name("F"), 64, *ONE * 64))
        self.assert_no_content(formula(7, *name("F"), 65, *ONE * 65))
        self.assert_no_content(formula(7, *name("F"), -1))
        self.assert_no_content(formula(7, *name("F"), 3, *ONE * 2))
        self.assert_no_content(formula(7, *name("F"), 1, *ONE * 2))

    def test_arrays(self):
        self.assert_each_number_counts(formula(8, 2, 2, 1, 5, 2, 1, 65, 3, 1, 4, 8))
        self.assert_taken(formula(8, 1, 1, 1, 0))
        self.assert_taken(formula(8, 64, 1, *[1, 7] * 64))
        self.assert_taken(formula(8, 1, 64, *[1, 7] * 64))
        self.assert_no_content(formula(8, 65, 1, *[1, 7] * 65))
        self.assert_no_content(formula(8, 1, 65, *[1, 7] * 65))
        self.assert_no_content(formula(8, 0, 1))
        self.assert_no_content(formula(8, 1, 0))
        self.assert_no_content(formula(8, -1, -1, 1, 7))
        self.assert_no_content(formula(8, 1, 1, 0))
        self.assert_no_content(formula(8, 1, 2, 1, 7, 0))
        self.assert_no_content(formula(8, 1, 1, 1, MOST + 1))

    def test_formulas_in_arrays_are_none(self):
        self.assert_no_content(formula(8, 1, 1, *ONE))


class Parts(SetCase):
    def function(self, *arguments):
        return [7] + name("F") + [len(arguments)] + flat(arguments)

    def of_parts(self, many):
        """A formula with that many parts, at least 7 of them."""
        full, rest = divmod(many - 1, 64)
        inner = [self.function(*[ONE] * 63) for index in range(full)]
        if rest:
            inner.append(self.function(*[ONE] * (rest - 1)))
        return self.function(*inner)

    def test_256_parts_and_257(self):
        self.assert_taken(formula(*self.of_parts(256)))
        self.assert_no_content(formula(*self.of_parts(257)))
        self.assert_no_content(formula(*self.of_parts(300)))

    def test_parts_of_all_kinds_count_one(self):
        kinds = [
            ONE, to_cell(0, off(0, 0)), to_area(0, off(0, 0), fixed(1, 1)), [3] + name("N"),
            [4] + name("T") + [1, 65, 0], self.function(),
        ]
        for kind in kinds:
            self.assert_taken(formula(*self.function(*[self.function(*[kind] * 62)] * 4, *[kind] * 3)))
            self.assert_no_content(formula(*self.function(*[self.function(*[kind] * 62)] * 4, *[kind] * 4)))

    def test_operations_count_with_their_parts(self):
        of_four = [6, 1, 5, 20] + ONE + ONE
        of_246 = self.function(*[self.function(*[of_four] * 12)] * 5)
        self.assert_taken(formula(6, 2, *of_246, *self.function(*[ONE] * 8)))
        self.assert_no_content(formula(6, 2, *of_246, *self.function(*[ONE] * 9)))

    def test_values_of_arrays_count(self):
        self.assert_taken(formula(8, 15, 17, *[1, 7] * 255))
        self.assert_no_content(formula(8, 16, 16, *[1, 7] * 256))
        self.assert_taken(formula(*self.function([8, 4, 63] + [1, 7] * 252, ONE, ONE)))
        self.assert_no_content(formula(*self.function([8, 4, 63] + [1, 7] * 252, ONE, ONE, ONE)))


class Depth(SetCase):
    def test_32_deep_and_33(self):
        self.assert_taken(formula(*[5, 20] * 31, *ONE))
        self.assert_no_content(formula(*[5, 20] * 32, *ONE))

    def test_far_too_deep(self):
        self.assert_no_content(formula(*[5, 20] * 3900, *ONE))
        self.assert_no_content(formula(*[6, 1] * 3900))

    def test_depth_is_that_of_the_deepest(self):
        self.assert_taken(formula(6, 1, *ONE, *[5, 20] * 30, *ONE))
        self.assert_no_content(formula(6, 1, *ONE, *[5, 20] * 31, *ONE))
        self.assert_no_content(formula(6, 1, *[5, 20] * 31, *ONE, *ONE))

    def test_what_stands_beside_is_not_deeper(self):
        self.assert_taken(formula(*[6, 1, *ONE] * 31, *ONE))
        self.assert_no_content(formula(*[6, 1, *ONE] * 32, *ONE))
        self.assert_taken(formula(6, 1, *[5, 20] * 30, *ONE, *[5, 20] * 30, *ONE))

    def test_the_deepest_may_be_of_any_kind_that_has_none_within(self):
        for deepest in (to_cell(0, off(0, 0)), [8, 1, 2, 1, 7, 1, 7], [7] + name("F") + [0], [3] + name("N")):
            self.assert_taken(formula(*[5, 21] * 31, *deepest))
            self.assert_no_content(formula(*[5, 21] * 32, *deepest))
        self.assert_no_content(formula(*[5, 21] * 31, 7, *name("F"), 1, *ONE))


class References(SetCase):
    def assert_both(self, spot, leads):
        """What holds of a cell holds of an area with that corner, the first or the second."""
        check = self.assert_taken if leads else self.assert_no_content
        for told_sheet in (0, 1, 2):
            check(formula(*to_cell(told_sheet, spot)))
            check(formula(*to_area(told_sheet, spot, fixed(3, 3))))
            check(formula(*to_area(told_sheet, fixed(3, 3), spot)))

    def test_fixed(self):
        for row, column in ((0, 0), (4095, 255), (0, 255), (4095, 0)):
            self.assert_both(fixed(row, column), True)
        for row, column in ((-1, 0), (0, -1), (4096, 0), (0, 256), (2 ** 127 - 1, 0), (0, -2 ** 127)):
            self.assert_both(fixed(row, column), False)

    def test_so_far_off(self):
        for rows, columns in ((0, 0), (-100, -100), (3995, 155)):
            self.assert_both(off(rows, columns), True)
        for rows, columns in ((-101, 0), (0, -101), (3996, 0), (0, 156), (-2 ** 127, 0), (0, 2 ** 127 - 1)):
            self.assert_both(off(rows, columns), False)

    def test_fixed_in_one_and_so_far_off_in_the_other(self):
        self.assert_both([1, 4095, 0, 155], True)
        self.assert_both([0, 3995, 1, 255], True)
        self.assert_both([1, 4095, 0, 156], False)
        self.assert_both([0, 3996, 1, 255], False)
        self.assert_both([0, 0, 1, 256], False)

    def test_from_the_formulas_own_cell(self):
        self.assert_taken(formula(*to_cell(0, off(4095, 255))), 0, 0)
        self.assert_taken(formula(*to_cell(0, off(-4095, -255))), 4095, 255)
        self.assert_no_content(formula(*to_cell(0, off(-1, 0))), 0, 0)
        self.assert_no_content(formula(*to_cell(0, off(0, 1))), 4095, 255)

    def test_sheets(self):
        for told_sheet in (0, 1, 2, 3):
            self.assert_taken(formula(*to_cell(told_sheet, fixed(0, 0))))
            self.assert_taken(formula(*to_area(told_sheet, fixed(0, 0), off(0, 0))))
        for told_sheet in (-1, 4, 64, 65, 2 ** 127 - 1, -2 ** 127):
            self.assert_no_content(formula(*to_cell(told_sheet, fixed(0, 0))))
            self.assert_no_content(formula(*to_area(told_sheet, fixed(0, 0), off(0, 0))))
        self.done(gone(1))
        self.assert_no_content(formula(*to_cell(2, fixed(0, 0))))

    def test_kinds_of_coordinates(self):
        for kind in (-1, 2):
            self.assert_both([kind, 0, 1, 0], False)
            self.assert_both([1, 0, kind, 0], False)

    def test_each_number_counts(self):
        self.assert_each_number_counts(formula(*to_cell(0, off(1, -1))))
        self.assert_each_number_counts(formula(*to_area(2, off(1, -1), fixed(5, 0))))

    def test_any_order_of_corners(self):
        for first in (fixed(9, 9), fixed(9, 1), fixed(1, 9), fixed(1, 1)):
            for second in (fixed(9, 9), fixed(9, 1), fixed(1, 9), fixed(1, 1)):
                self.assert_taken(formula(*to_area(0, first, second)))

    def test_wherever_it_stands_in_the_formula(self):
        good = to_cell(0, fixed(0, 0))
        for bad in (to_cell(0, fixed(4096, 0)), to_cell(4, fixed(0, 0)), to_area(0, fixed(0, 0), off(0, 200))):
            self.assert_no_content(formula(6, 1, *good, *bad))
            self.assert_no_content(formula(6, 1, *bad, *good))
            self.assert_no_content(formula(7, *name("F"), 3, *good, 5, 20, *bad, *good))


class Full(SetCase):
    def fill_up(self):
        rows = [(row, column) for row in range(64) for column in range(255)]
        self.done(*[put(0, row, column, number(1)) for row, column in rows])
        left = 16384 - len(rows)
        self.done(*[put(1, row, 0, number(1)) for row in range(left)])
        self.assertEqual(len(standing(self.book)), 16384)

    def test_16384_cells(self):
        self.fill_up()
        self.assert_refused(-5, put(0, 100, 0, number(1)))
        self.assert_refused(-5, put(2, 0, 0, formula(*ONE)))
        self.assert_refused(-3, put(2, 0, 0, [0]))
        self.assert_refused(-3, put(2, 0, 0, formula(*to_cell(4, fixed(0, 0)))))
        before = all_of(self.book)
        self.assertEqual(perform(self.book, [put(2, 0, 0, [0, 0])]), [[0]])
        self.assertEqual(all_of(self.book), before)
        self.assert_taken(number(2), 0, 0)
        self.assertEqual(perform(self.book, [put(0, 0, 0, [0, 0]), put(2, 0, 0, number(3))]), [[0], [0]])
        self.assert_refused(-5, put(0, 0, 0, number(1)))
        self.assertEqual(perform(self.book, [gone(2), put(0, 0, 0, number(1))]), [[0], [0]])
        self.assert_refused(-5, put(0, 100, 0, number(1)))


if __name__ == "__main__":
    unittest.main()
