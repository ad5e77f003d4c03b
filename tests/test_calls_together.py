import itertools
import unittest

from evenbook.journal import balance, check, moves
from tests.keeping import handed
from tests.support import EVEN, EXAMPLE, LAST_DAY, MOST_INT, OUT_OF_ORDER, entry, zero_entries


class OneAnother(unittest.TestCase):
    """check, balance and moves keep nothing for one another."""

    TEXTS = (EXAMPLE, OUT_OF_ORDER, zero_entries(4096), EVEN + "x", EVEN, "", entry(["a 49999999999999 EUR", "b"]))

    def calls(self):
        """Each call with each text, as a name and what it is handed, so that it can be made again."""
        for text in self.TEXTS:
            yield check, (text,)
            for account in ("", "a", "assets", "A"):
                yield balance, (1, 100, text, account, "2026-01-31")
                yield moves, (200, text, account, "2026-01-31")

    def answer(self, call):
        return call[0](*handed(call[1]))

    def test_in_any_order(self):
        calls = list(self.calls())
        first = [self.answer(call) for call in calls]
        for call, answer in reversed(list(zip(calls, first))):
            self.assertEqual(self.answer(call), answer, call)

    def test_each_ahead_of_each(self):
        short = [call for call in self.calls() if max([len(str(value)) for value in call[1]]) < 300]
        expected = {call: self.answer(call) for call in short}
        for one, other in itertools.product(short, repeat=2):
            self.answer(one)
            self.assertEqual(self.answer(other), expected[other], (one, other))

    def test_the_same_lists_for_all(self):
        for text in self.TEXTS:
            lists = handed((text, "a", LAST_DAY))
            first = (check(lists[0]), balance(8, MOST_INT, *lists), moves(MOST_INT, *lists))
            second = (moves(MOST_INT, *lists), balance(8, MOST_INT, *lists), check(lists[0]))
            self.assertTrue(second == first[::-1], text[-400:])
            self.assertTrue(lists == handed((text, "a", LAST_DAY)), text[-400:])


if __name__ == "__main__":
    unittest.main()
