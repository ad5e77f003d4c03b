"""What the tests share: journals as Python's texts, and asking check and balance for them."""

import unittest

from evenbook.journal import balance, check

EXAMPLE = """2026-01-05 opening
  assets:cash     100.00 EUR
  assets:dollars   20 USD
  equity
2026-01-06 food  # for two
  expenses:food    12.34 EUR
  assets:cash
"""

LAST_DAY = "9999-12-31"
MOST_INT = 2147483647

EVEN = "2026-01-01\n a 1 EUR\n b -1 EUR\n"


def bytes_of(text):
    return list(text.encode("latin-1"))


def capital_word(number):
    """Another kind for each number."""
    return chr(65 + number // 26) + chr(65 + number % 26)


def entry(movements, day="2026-01-01"):
    return "".join([day + "\n"] + [f" {movement}\n" for movement in movements])


def zero_entries(count):
    """Entries with that many movements in all, none of which moves anything."""
    texts = []
    while count > 0:
        # An entry has 2 to 64 movements, so no single one may be left over.
        size = 62 if count == 65 else min(count, 64)
        texts.append(entry(["a 0 A"] * size))
        count -= size
    return "".join(texts)


def line_count(text):
    return text.count("\n") + (1 if text and not text.endswith("\n") else 0)


class CheckCase(unittest.TestCase):
    def journal(self, text):
        self.assertEqual(check(bytes_of(text)), [0], text[-400:])

    def wrong(self, text, line):
        self.assertEqual(check(bytes_of(text)), [-1, line], text[-400:])

    def wrong_at_last(self, text):
        """Wrong in its last line, whatever follows."""
        line = line_count(text)
        self.wrong(text, line)
        ended = text if text.endswith("\n") else text + "\n"
        self.wrong(ended, line)
        self.wrong(ended + " b -1 EUR\n" + EVEN + "x", line)

    def wrong_at_end(self, text):
        """Wrong only where the last entry, whose lines are all ended, ends."""
        line = line_count(text) + 1
        self.wrong(text, line)
        self.wrong(text[:-1], line)
        self.wrong(text + "\n # remark\n\t", line + 3)
        self.wrong(text + "\n # remark\n\t\n", line + 3)
        self.wrong(text + EVEN, line)
        self.wrong(text + "\n#\n" + EVEN, line + 2)
        self.wrong(text + "not a day\n", line)


class BalanceCase(unittest.TestCase):
    def balance(self, text, account="", depth=8, day=LAST_DAY, most=MOST_INT):
        return balance(depth, most, bytes_of(text), bytes_of(account), bytes_of(day))

    def told(self, text, lines, **asked):
        """These lines are told."""
        rows = bytes_of("".join([line + "\n" for line in lines]))
        self.assertEqual(self.balance(text, **asked), [len(rows)] + rows, (text[-400:], asked))

    def refused(self, text, refusal, **asked):
        self.assertEqual(self.balance(text, **asked), [refusal], (text[-400:], asked))
