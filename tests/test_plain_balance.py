"""Journals made at random, from a fixed seed, and a second way to balance them to compare with."""

import random
import unittest

from evenbook.journal import balance
from tests.plain_journals import answer_of, plain_movements, random_journal, shown
from tests.support import bytes_of
from tests.test_plain_reading import plain_check


def plain_lines(depth, text, account, day):
    sums = {}
    for _, moved, amount, kind in plain_movements(text, account, day):
        place = (":".join(moved.split(":")[:depth]), kind)
        sums[place] = sums.get(place, 0) + amount
    return [(name, shown(amount), kind) for (name, kind), amount in sorted(sums.items()) if amount]


class PlainBalance(unittest.TestCase):
    def test_journals_at_random(self):
        source = random.Random(4)
        told = 0
        for _ in range(2500):
            text, account, day = random_journal(source)
            self.assertEqual(plain_check(text), [0])
            depth = source.randint(1, 8)
            lines = plain_lines(depth, text, account, day)
            whole = answer_of(lines, 100000)[0]
            for most in (whole, whole - 1, 100000):
                answer = balance(depth, most, bytes_of(text), bytes_of(account), bytes_of(day))
                self.assertEqual(answer, answer_of(lines, most), (text, depth, most, account, day))
            told += whole > 0
        self.assertGreater(told, 1000)


if __name__ == "__main__":
    unittest.main()
