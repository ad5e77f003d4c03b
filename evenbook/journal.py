"""Journals of double entries, and what is asked of them."""

from evenbook.forms import DAY_BYTES, MOST_NAMES, amount_of, begins_entry, first_names, line_of, lines_of
from evenbook.forms import is_account, is_amount, is_blank, is_day, is_kind, is_within
from evenbook.forms import told_amount, without_remark, words_of

LEAST_IN_ENTRY = 2
MOST_IN_ENTRY = 64
MOST_MOVEMENTS = 4096
MOST_ACCOUNTS = 256
MOST_KINDS = 16
# 10^14, in the ten-thousandths that amounts are counted in.
SIZE_BOUND = 1000000000000000000


class Entry:
    """What an entry's lines have said so far."""

    def __init__(self, day):
        self.day = day
        self.written = 0
        # The account of the movement without an amount, once there is one, and its place among all movements.
        self.lacking = None
        self.lacking_place = 0
        self.sums = {}

    def add_amount(self, kind, amount):
        self.sums[kind] = self.sums.get(kind, 0) + amount

    def wanting(self):
        """The kinds that don't come out at 0, each with the amount that's wanting, as the kinds come first."""
        return [(kind, -amount) for kind, amount in self.sums.items() if amount != 0]


class Book:
    """A journal as far as it was read. Its methods answer whether what was read can begin a journal."""

    def __init__(self):
        self.entry = None
        self.movements = []
        self.accounts = {}
        self.sizes = {}

    def take_line(self, line):
        said = without_remark(line)
        words = words_of(said)
        if len(words) == 0:
            return True
        if is_blank(said[0]):
            return self.take_movement(words)
        return self.end_entry() and self.begin_entry(said)

    def begin_entry(self, line):
        self.entry = Entry(tuple(line[:DAY_BYTES]))
        return begins_entry(line)

    def take_movement(self, words):
        entry = self.entry
        if entry is None or not is_account(words[0]):
            return False
        account = tuple(words[0])
        self.accounts[account] = True
        entry.written += 1
        if len(self.accounts) > MOST_ACCOUNTS or entry.written > MOST_IN_ENTRY:
            return False
        if len(words) == 1:
            return self.take_lacking(account)
        return len(words) == 3 and self.take_amount(account, words[1], words[2])

    def take_lacking(self, account):
        if self.entry.lacking is not None:
            return False
        self.entry.lacking = account
        self.entry.lacking_place = len(self.movements)
        return True

    def take_amount(self, account, amount_word, kind_word):
        if not is_amount(amount_word) or not is_kind(kind_word):
            return False
        kind = tuple(kind_word)
        amount = amount_of(amount_word)
        self.entry.add_amount(kind, amount)
        return self.add_movement(len(self.movements), account, kind, amount)

    def add_movement(self, place, account, kind, amount):
        self.movements.insert(place, (self.entry.day, account, kind, amount))
        self.sizes[kind] = self.sizes.get(kind, 0) + abs(amount)
        if len(self.movements) > MOST_MOVEMENTS or len(self.sizes) > MOST_KINDS:
            return False
        return self.sizes[kind] < SIZE_BOUND

    def end_entry(self):
        entry = self.entry
        if entry is None:
            return True
        if entry.written < LEAST_IN_ENTRY:
            return False
        if entry.lacking is None:
            return len(entry.wanting()) == 0
        return self.add_wanting(entry)

    def add_wanting(self, entry):
        # What an entry wants is known, and so counted, only where it ends; but it stands where its line stands.
        place = entry.lacking_place
        for kind, amount in entry.wanting():
            if not self.add_movement(place, entry.lacking, kind, amount):
                return False
            place += 1
        return True


def error_line(book, text):
    """The error's line, or 0 if the text is a journal, which the book then holds."""
    lines = lines_of(text)
    for number, line in enumerate(lines, start=1):
        if not book.take_line(line):
            return number
    if not book.end_entry():
        return len(lines) + 1
    return 0


def can_be_asked(account, day):
    """Whether the account is one, or none at all, and the day is one."""
    return (len(account) == 0 or is_account(account)) and is_day(day)


def movements_within(book, account, day):
    """A journal's movements of the account, and of those within it, up to the day, as they stand."""
    outer = tuple(account)
    last = tuple(day)
    return [movement for movement in book.movements if movement[0] <= last and is_within(movement[1], outer)]


def sums_at(depth, movements):
    """What the movements come to, by the first names of their accounts and by kind."""
    sums = {}
    for day, account, kind, amount in movements:
        place = (first_names(account, depth), kind)
        sums[place] = sums.get(place, 0) + amount
    return sums


def told_sums(sums):
    """The bytes of a line for each sum that isn't 0, in the order of accounts, then kinds."""
    told = []
    for account, kind in sorted(sums):
        amount = sums[(account, kind)]
        if amount != 0:
            told.extend(line_of([account, told_amount(amount), kind]))
    return told


def in_order_of_days(movements):
    """The movements by their days, those of the same day as they stood."""
    return sorted(movements, key=lambda movement: movement[0])


def told_movements(movements):
    """The bytes of a line for each movement, with what all of them up to it come to of its kind."""
    told = []
    sums = {}
    for day, account, kind, amount in movements:
        sums[kind] = sums.get(kind, 0) + amount
        told.extend(line_of([day, account, told_amount(amount), kind, told_amount(sums[kind])]))
    return told


def answer_of(told, most):
    """How many bytes are told and these, or [-3] if they are more than most."""
    if len(told) > max(most, 0):
        return [-3]
    return [len(told)] + told


def check(text):
    """[0] for a journal, else [-1, the error's line]."""
    line = error_line(Book(), text)
    if line > 0:
        return [-1, line]
    return [0]


def balance(depth, most, text, account, day):
    """What the account and those within it have up to the day, told by their first names, or a refusal alone."""
    book = Book()
    if error_line(book, text) > 0:
        return [-1]
    if depth < 1 or depth > MOST_NAMES or not can_be_asked(account, day):
        return [-2]
    sums = sums_at(depth, movements_within(book, account, day))
    return answer_of(told_sums(sums), most)


def moves(most, text, account, day):
    """The movements of the account and of those within it up to the day, with what it has after each, or a refusal."""
    book = Book()
    if error_line(book, text) > 0:
        return [-1]
    if not can_be_asked(account, day):
        return [-2]
    movements = in_order_of_days(movements_within(book, account, day))
    return answer_of(told_movements(movements), most)
