"""What the tests share: journals as Python's texts, and asking check, balance and moves for them."""

import unittest

from evenbook.journal import balance, check, moves

EXAMPLE = """2026-01-05 opening
  assets:cash     100.00 EUR
  assets:dollars   20 USD
  equity
2026-01-06 food  # for two
  expenses:food    12.34 EUR
  assets:cash
"""

LAST_DAY = "9999-12-31"
MOST_INT = 2147483647
LEAST_INT = -2147483648
MOST_BYTES = 65536

EVEN = "2026-01-01\n a 1 EUR\n b -1 EUR\n"


def bytes_of(text):
    return list(text.encode("latin-1"))


def capital_word(number):
    """Another kind for each number."""
    return chr(65 + number // 26) + chr(65 + number % 26)


def entry(movements, day="2026-01-01"):
    return "".join([day + "\n"] + [f" {movement}\n" for movement in movements])


# Days the wrong way round, and movements without an amount ahead of the others.
OUT_OF_ORDER = entry(["b", "a 1 A"], "2026-01-02") + entry(["c", "a 2 B", "a 1 A"])


def zero_entries(count):
    """Entries with that many movements in all, none of which moves anything."""
    texts = []
    while count > 0:
        # An entry has 2 to 64 movements, so no single one may be left over.
        size = 62 if count == 65 else min(count, 64)
        texts.append(entry(["a 0 A"] * size))
        count -= size
    return "".join(texts)


def line_count(text):
    return text.count("\n") + (1 if text and not text.endswith("\n") else 0)


class CheckCase(unittest.TestCase):
    def journal(self, text):
        self.assertEqual(check(bytes_of(text)), [0], text[-400:])

    def wrong(self, text, line):
        self.assertEqual(check(bytes_of(text)), [-1, line], text[-400:])

    def wrong_at_last(self, text):
        """Wrong in its last line, whatever follows."""
        line = line_count(text)
        self.wrong(text, line)
        ended = text if text.endswith("\n") else text + "\n"
        self.wrong(ended, line)
        self.wrong(ended + " b -1 EUR\n" + EVEN + "x", line)

    def wrong_at_end(self, text):
        """Wrong only where the last entry, whose lines are all ended, ends."""
        line = line_count(text) + 1
        self.wrong(text, line)
        self.wrong(text[:-1], line)
        self.wrong(text + "\n # remark\n\t", line + 3)
        self.wrong(text + "\n # remark\n\t\n", line + 3)
        self.wrong(text + EVEN, line)
        self.wrong(text + "\n#\n" + EVEN, line + 2)
        self.wrong(text + "not a day\n", line)


def shown(answer):
    """The beginning of an answer, with what is told as a text."""
    return answer[:1], bytes(answer[1:2000]).decode("latin-1")


class ToldCase(unittest.TestCase):
    """For a call that tells lines: those that come of it have an `ask` that makes the call."""

    def told(self, text, lines, **asked):
        """These lines are told."""
        rows = bytes_of("".join([line + "\n" for line in lines]))
        self.same(self.ask(text, **asked), [len(rows)] + rows, (text[-400:], asked))

    def refused(self, text, refusal, **asked):
        self.same(self.ask(text, **asked), [refusal], (text[-400:], asked))

    def same(self, answer, expected, where):
        # assertEqual would show how long answers differ, which takes many minutes.
        if answer != expected:
            self.fail(f"{shown(answer)} instead of {shown(expected)} for {where}")


class BalanceCase(ToldCase):
    def ask(self, text, account="", depth=8, day=LAST_DAY, most=MOST_INT):
        return balance(depth, most, bytes_of(text), bytes_of(account), bytes_of(day))


class MovesCase(ToldCase):
    def ask(self, text, account="", day=LAST_DAY, most=MOST_INT):
        return moves(most, bytes_of(text), bytes_of(account), bytes_of(day))
