"""Journals made at random, from a fixed seed, and a second way to tell their movements to compare with."""

import random
import unittest

from evenbook.journal import balance, moves
from tests.plain_journals import answer_of, plain_movements, random_journal, shown
from tests.support import LAST_DAY, MOST_INT, bytes_of
from tests.test_plain_reading import plain_check


def plain_lines(text, account, day):
    movements = plain_movements(text, account, day)
    placed = sorted([(movement[0], place) for place, movement in enumerate(movements)])
    in_order = [movements[place] for _, place in placed]
    lines = []
    for count, (moved_on, moved, amount, kind) in enumerate(in_order, start=1):
        has = sum([other[2] for other in in_order[:count] if other[3] == kind])
        lines.append((moved_on, moved, shown(amount), kind, shown(has)))
    return lines


class PlainMoves(unittest.TestCase):
    def test_journals_at_random(self):
        source = random.Random(5)
        told = 0
        for _ in range(2500):
            text, account, day = random_journal(source)
            self.assertEqual(plain_check(text), [0])
            lines = plain_lines(text, account, day)
            whole = answer_of(lines, 100000)[0]
            for most in (whole, whole - 1, 100000):
                answer = moves(most, bytes_of(text), bytes_of(account), bytes_of(day))
                self.assertEqual(answer, answer_of(lines, most), (text, most, account, day))
            told += whole > 0
        self.assertGreater(told, 1000)

    def test_what_it_has_at_last_is_its_balance(self):
        source = random.Random(6)
        for _ in range(500):
            text, account, _ = random_journal(source)
            # With no account at all, all that is had comes out at 0, and balance tells each account by itself.
            if account == "" or ":" in account:
                continue
            asked = (bytes_of(text), bytes_of(account), bytes_of(LAST_DAY))
            last = {}
            for line in bytes(moves(MOST_INT, *asked)[1:]).decode().splitlines():
                last[line.split()[3]] = line.split()[4]
            lines = [(account, last[kind], kind) for kind in sorted(last) if last[kind] != "0"]
            self.assertEqual(balance(1, MOST_INT, *asked), answer_of(lines, MOST_INT), (text, account))


if __name__ == "__main__":
    unittest.main()
