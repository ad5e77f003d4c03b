import unittest

from evenbook.forms import told_amount
from tests import amounts
from tests.support import BalanceCase, capital_word, entry


class Told(amounts.Told, BalanceCase):
    def as_told(self, written, told):
        """What an amount is told as, where it stands alone, and what is wanting for it."""
        text = entry([f"a {written} A", "b"])
        wanting = told[1:] if told.startswith("-") else "-" + told
        self.told(text, [f"a {told} A", f"b {wanting} A"])

    def test_0_without_a_sign(self):
        # balance tells no sum of 0, so this is asked of the telling itself.
        self.assertEqual(told_amount(0), [48])


class Sums(BalanceCase):
    def sum_of(self, amounts, told):
        movements = [f"a {amount} A" for amount in amounts]
        self.told(entry(movements + ["b"]), [f"a {told} A"] if told else [], account="a")
        entries = [entry([movement, "b"]) for movement in movements]
        self.told("".join(entries), [f"a {told} A"] if told else [], account="a")

    def test_of_several(self):
        self.sum_of(["1", "2"], "3")
        self.sum_of(["0.1", "0.2"], "0.3")
        self.sum_of(["0.5", "0.5"], "1")
        self.sum_of(["9.9999", "0.0001"], "10")
        self.sum_of(["0.0001", "0.001", "0.01", "0.1", "1"], "1.1111")
        self.sum_of(["24999999999999.9999", "0.0001", "24999999999999"], "49999999999999")

    def test_below_0(self):
        self.sum_of(["1", "-3"], "-2")
        self.sum_of(["1", "-1.5"], "-0.5")
        self.sum_of(["-0.5", "-0.5"], "-1")
        self.sum_of(["-10", "0.0001"], "-9.9999")

    def test_of_0(self):
        self.sum_of(["0"], None)
        self.sum_of(["-0", "0.0000"], None)
        self.sum_of(["1", "-1"], None)
        self.sum_of(["0.1", "0.2", "-0.3"], None)

    def test_each_kind_by_itself(self):
        kinds = [capital_word(number) for number in range(16)]
        movements = [f"a {number + 1} {kind}" for number, kind in enumerate(kinds)]
        self.told(entry(movements + ["b"]), movements, account="a")
        self.told(entry(movements + ["b"]) + entry(["a -1 AA", "b"]), movements[1:], account="a")
        self.told(entry(["a 1 EU", "a -1 EUR", "b"]), ["a 1 EU", "a -1 EUR"], account="a")

    def test_up_to_the_day_alone(self):
        text = entry(["a 1 A", "b"], "2026-01-01") + entry(["a -1 A", "b"], "2026-01-02")
        self.told(text, ["a 1 A", "b -1 A"], day="2026-01-01")
        self.told(text, [], day="2026-01-02")


if __name__ == "__main__":
    unittest.main()
