"""Sheets of a workbook: cells, values, formulas, and references that go along with what they refer to."""
