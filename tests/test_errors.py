"""The errors, as the interface tells them."""

import unittest

from ledgerdb.errors import Constraint, Dead, LedgerError, NoBase, NoPage, NoRoom, WrongWord

REFUSALS = (Dead, NoPage, NoBase, WrongWord, Constraint, NoRoom)


class ErrorsTest(unittest.TestCase):
    def test_ledger_error_is_a_value_error(self):
        self.assertTrue(issubclass(LedgerError, ValueError))

    def test_each_refusal_stands_below_ledger_error(self):
        for refusal in REFUSALS:
            self.assertTrue(issubclass(refusal, LedgerError))
            self.assertTrue(issubclass(refusal, ValueError))
            self.assertIsNot(refusal, LedgerError)

    def test_no_refusal_stands_below_another(self):
        for one in REFUSALS:
            for other in REFUSALS:
                self.assertEqual(issubclass(one, other), one is other)

    def test_each_is_caught_by_its_names_and_no_other(self):
        for refusal in REFUSALS:
            for caught in (refusal, LedgerError, ValueError):
                with self.assertRaises(caught):
                    raise refusal("words")
            others = tuple(other for other in REFUSALS if other is not refusal)
            self.assertNotIsInstance(refusal("words"), others)

    def test_words_are_told(self):
        for refusal in (LedgerError, Dead, NoPage, NoBase, Constraint, NoRoom):
            self.assertEqual(str(refusal("why")), "why")

    def test_a_wrong_word_tells_its_place(self):
        self.assertEqual(WrongWord(3).place, 3)
        self.assertIn("3", str(WrongWord(3)))


if __name__ == "__main__":
    unittest.main()
