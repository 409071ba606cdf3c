"""The examples of the document, word for word: [1], [71], [88], and the form of those in [80]."""

import doctest
import unittest

FIRST = """
>>> from blankcells.certain import choices, together
>>> from blankcells.sure import sure_rows
>>> from blankcells.conflicts import clashing, clearings
>>> rules = (((0,), 1), ((1,), 2))
>>> table = (3, ((1, 2, None), (1, None, 3), (None, 4, 5)))
>>> choices(table, rules, (1, 1)), choices(table, rules, (2, 0))
(('only', 2), ('all but', (1,)))
>>> sure_rows(table, rules, (1, 2))
((2, 3), (4, 5))
>>> table = (2, ((1, 5), (1, 6), (2, 5)))
>>> list(clearings(table, rules[:1], 2)), list(clashing(table, rules[:1]))
([((0, 0),), ((0, 1),), ((1, 0),), ((1, 1),)], [(0, 1)])
"""

SPLITS = """
>>> from blankcells.splits import small, split
>>> small(3, ((0, 1), (0, 2)))
(3, ((0, 0, None), (0, None, 0)))
>>> split(3, (((0,), 2),), ((0, 1), (0, 2)))
('exact', ((0, 0, 1),))
"""

TEXTS = """
>>> from blankcells.texts import rules_text
>>> rules_text(3, (((0, 1), 2), ((), 0)))
'columns 3\\n0 1 > 2\\n> 0\\n'
"""

SHEETS = """
>>> from blankcells.sheets import Sheet
>>> sheet = Sheet(3)
>>> sheet.rows = ((1, None, None), (None, 2, 3))
>>> sheet
Sheet(2 rows, 3 blanks)
"""


class DocumentTest(unittest.TestCase):
    def run_examples(self, text, amount):
        examples = doctest.DocTestParser().get_doctest(text, {}, "document", None, 0)
        self.assertEqual(len(examples.examples), amount)
        printed = []
        result = doctest.DocTestRunner(verbose=False).run(examples, out=printed.append)
        self.assertEqual(result.failed, 0, "".join(printed))

    def test_first(self):
        self.run_examples(FIRST, 9)

    def test_splits(self):
        self.run_examples(SPLITS, 3)

    def test_texts(self):
        self.run_examples(TEXTS, 2)

    def test_sheets(self):
        self.run_examples(SHEETS, 4)


if __name__ == "__main__":
    unittest.main()
