"""What is kept of what is told, and that refusals change nothing of it."""

import unittest

from formasks.form import NoSuchCall, answer_call, answers
from formasks.sheet import Sheet
from tests.helper import answer, asked, begins, forget, never, other, question, row


def sheet_after(*calls):
    sheet = Sheet()
    for one in calls:
        answer_call(sheet, one[0], one[2:-1])
    return sheet


def kept(sheet):
    return (sheet.sizes, sheet.burdens, sheet.conditions, sheet.given, sheet.nevers, sheet.rows, sheet.other)


TOLD = [question(2, 1), question(3, 100), asked(1, 0, 1), never(1, 4), row(9, 0, 1), row(0, 1, 3, 1, 6), other(8),
        answer(0, 0)]


class Kept(unittest.TestCase):
    def test_at_first(self):
        self.assertEqual(kept(Sheet()), ([], [], [], [], [], [], 0))

    def test_what_is_told(self):
        self.assertEqual(kept(sheet_after(*TOLD)), (
            [2, 3], [1, 100], [[], [[(0, 1)]]], [1, 0], [[(1, 4)]], [(9, [(0, 1)]), (0, [(1, 2)])], 8))

    def test_begins_takes_all_back(self):
        self.assertEqual(kept(sheet_after(*TOLD, begins())), kept(Sheet()))

    def test_refusals_change_nothing(self):
        refused = [
            question(1, 1), question(2, 101), asked(2, 0, 1), asked(1, 1, 1), asked(1), never(), never(0, 1),
            row(10, 0, 1), row(1), row(1, 2, 1), other(10), answer(2, 0), answer(0, 2), answer(0, 1), answer(1, 2),
            forget(1), forget(2)]
        for one in refused:
            with self.subTest(one=one):
                sheet = sheet_after(*TOLD)
                self.assertLess(answer_call(sheet, one[0], one[2:-1])[0], 0)
                self.assertEqual(kept(sheet), kept(sheet_after(*TOLD)))

    def test_refusals_for_no_room_change_nothing(self):
        full = [*[question(2)] * 6, *[asked(1, 0, 1)] * 4, *[never(0, 2)] * 10, *[row(1, 0, 1)] * 12]
        for one in (question(3, 7), asked(1, 0, 2), never(2, 1), row(2, 0, 2)):
            with self.subTest(one=one):
                sheet = sheet_after(*full)
                self.assertEqual(answer_call(sheet, one[0], one[2:-1]), [-5])
                self.assertEqual(kept(sheet), kept(sheet_after(*full)))

    def test_a_number_that_no_call_has(self):
        with self.assertRaises(NoSuchCall):
            answers([15, 0, 0])
