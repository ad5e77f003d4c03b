"""Journals of double entries, and what is asked of them."""

from evenbook.forms import amount_of, begins_entry, is_account, is_amount, is_blank, is_kind
from evenbook.forms import lines_of, without_remark, words_of

LEAST_IN_ENTRY = 2
MOST_IN_ENTRY = 64
MOST_MOVEMENTS = 4096
MOST_ACCOUNTS = 256
MOST_KINDS = 16
# 10^14, in the ten-thousandths that amounts are counted in.
SIZE_BOUND = 1000000000000000000


class Entry:
    """What an entry's lines have said so far."""

    def __init__(self):
        self.written = 0
        self.without_amount = 0
        self.sums = {}

    def add_amount(self, kind, amount):
        self.sums[kind] = self.sums.get(kind, 0) + amount

    def wanting(self):
        """The kinds that don't come out at 0, each with the amount that's wanting, as the kinds come first."""
        return [(kind, -amount) for kind, amount in self.sums.items() if amount != 0]


class Book:
    """A journal as far as it was read. Its methods answer whether what was read can begin a journal."""

    def __init__(self):
        self.entry = None
        self.movements = 0
        self.accounts = {}
        self.sizes = {}

    def take_line(self, line):
        said = without_remark(line)
        words = words_of(said)
        if len(words) == 0:
            return True
        if is_blank(said[0]):
            return self.take_movement(words)
        return self.end_entry() and self.begin_entry(said)

    def begin_entry(self, line):
        self.entry = Entry()
        return begins_entry(line)

    def take_movement(self, words):
        entry = self.entry
        if entry is None or not is_account(words[0]):
            return False
        self.accounts[tuple(words[0])] = True
        entry.written += 1
        if len(self.accounts) > MOST_ACCOUNTS or entry.written > MOST_IN_ENTRY:
            return False
        if len(words) == 1:
            entry.without_amount += 1
            return entry.without_amount == 1
        return len(words) == 3 and self.take_amount(words[1], words[2])

    def take_amount(self, amount_word, kind_word):
        if not is_amount(amount_word) or not is_kind(kind_word):
            return False
        kind = tuple(kind_word)
        amount = amount_of(amount_word)
        self.entry.add_amount(kind, amount)
        return self.count_movement(kind, amount)

    def count_movement(self, kind, amount):
        self.movements += 1
        self.sizes[kind] = self.sizes.get(kind, 0) + abs(amount)
        if self.movements > MOST_MOVEMENTS or len(self.sizes) > MOST_KINDS:
            return False
        return self.sizes[kind] < SIZE_BOUND

    def end_entry(self):
        entry = self.entry
        if entry is None:
            return True
        if entry.written < LEAST_IN_ENTRY:
            return False
        # What an entry wants is known, and so counted, only where it ends.
        wanting = entry.wanting()
        if entry.without_amount == 0:
            return len(wanting) == 0
        for kind, amount in wanting:
            if not self.count_movement(kind, amount):
                return False
        return True


def error_line(text):
    """The error's line, or 0 if the text is a journal."""
    book = Book()
    lines = lines_of(text)
    for number, line in enumerate(lines, start=1):
        if not book.take_line(line):
            return number
    if not book.end_entry():
        return len(lines) + 1
    return 0


def check(text):
    """[0] for a journal, else [-1, the error's line]."""
    line = error_line(text)
    if line > 0:
        return [-1, line]
    return [0]
