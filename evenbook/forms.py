"""The forms that a journal is written in: lines, words, days, accounts, amounts and kinds, as lists of bytes."""

TAB = 9
LINE_FEED = 10
SPACE = 32
HASH = 35
DASH = 45
POINT = 46
ZERO = 48
NINE = 57
COLON = 58
CAPITAL_A = 65
CAPITAL_Z = 90
UNDERSCORE = 95
SMALL_A = 97
SMALL_Z = 122

DAY_BYTES = 10
FIRST_YEAR = 1583
FEBRUARY = 2
MONTH_DAYS = (31, 28, 31, 30, 31, 30, 31, 31, 30, 31, 30, 31)
MOST_NAMES = 8
MOST_NAME_SIGNS = 31
MOST_WHOLE_DIGITS = 14
MOST_REST_DIGITS = 4
MOST_KIND_SIGNS = 8
# The amount 1, in the ten-thousandths that amounts are counted in.
ONE = 10000


def parts_of(row, mark):
    """The parts of a row of bytes between its marks, the empty ones too."""
    parts = []
    part = []
    for byte in row:
        if byte == mark:
            parts.append(part)
            part = []
        else:
            part.append(byte)
    parts.append(part)
    return parts


def lines_of(text):
    """The text's lines, each without its line feed."""
    lines = parts_of(text, LINE_FEED)
    # Behind the last line feed a line begins only if something stands there.
    if len(lines[-1]) == 0:
        return lines[:-1]
    return lines


def without_remark(line):
    """What a line says ahead of its remark."""
    return parts_of(line, HASH)[0]


def is_blank(byte):
    return byte == SPACE or byte == TAB


def words_of(line):
    """What stands in a line between its blanks."""
    spaced = [SPACE if byte == TAB else byte for byte in line]
    return [word for word in parts_of(spaced, SPACE) if len(word) > 0]


def line_of(words):
    """The line that tells the words, a blank between each and a line feed behind them."""
    line = []
    for word in words:
        line.extend(word)
        line.append(SPACE)
    line[-1] = LINE_FEED
    return line


def is_digit(byte):
    return ZERO <= byte <= NINE


def is_capital(byte):
    return CAPITAL_A <= byte <= CAPITAL_Z


def is_small(byte):
    return SMALL_A <= byte <= SMALL_Z


def are_digits(row):
    return all([is_digit(byte) for byte in row])


def number_of(digits):
    """The whole number that a row of digits tells."""
    number = 0
    for digit in digits:
        number = number * 10 + digit - ZERO
    return number


def is_leap(year):
    return year % 4 == 0 and (year % 100 != 0 or year % 400 == 0)


def days_in(year, month):
    if month == FEBRUARY and is_leap(year):
        return 29
    return MONTH_DAYS[month - 1]


def is_day(row):
    """Whether the bytes are YYYY-MM-DD, a day that there is."""
    if len(row) != DAY_BYTES or row[4] != DASH or row[7] != DASH:
        return False
    if not are_digits(row[:4] + row[5:7] + row[8:]):
        return False
    year = number_of(row[:4])
    month = number_of(row[5:7])
    if year < FIRST_YEAR or month < 1 or month > 12:
        return False
    return 1 <= number_of(row[8:]) <= days_in(year, month)


def begins_entry(line):
    """Whether a line is a day alone, or a day with a blank behind it."""
    if not is_day(line[:DAY_BYTES]):
        return False
    return len(line) == DAY_BYTES or is_blank(line[DAY_BYTES])


def is_name_sign(byte):
    return is_small(byte) or is_digit(byte) or byte == UNDERSCORE or byte == DASH


def is_name(row):
    if len(row) < 1 or len(row) > MOST_NAME_SIGNS:
        return False
    return is_small(row[0]) and all([is_name_sign(byte) for byte in row])


def is_account(row):
    names = parts_of(row, COLON)
    return len(names) <= MOST_NAMES and all([is_name(name) for name in names])


def is_within(account, outer):
    """Whether an account is the outer one or has its names and more; where the outer one is empty, all are."""
    if len(outer) == 0:
        return True
    # With a colon behind both, an outer one that only begins a name is not taken for that name.
    names = outer + (COLON,)
    return (account + (COLON,))[:len(names)] == names


def first_names(account, depth):
    """An account's first names, as many as depth says, or all if it has fewer."""
    names = 0
    for place, byte in enumerate(account):
        if byte == COLON:
            names += 1
            if names == depth:
                return account[:place]
    return account


def is_kind(row):
    return 1 <= len(row) <= MOST_KIND_SIGNS and all([is_capital(byte) for byte in row])


def is_whole(digits):
    """Whether a row can stand ahead of an amount's point."""
    if len(digits) < 1 or len(digits) > MOST_WHOLE_DIGITS or not are_digits(digits):
        return False
    return len(digits) == 1 or digits[0] != ZERO


def is_rest(digits):
    """Whether a row can stand behind an amount's point."""
    return 1 <= len(digits) <= MOST_REST_DIGITS and are_digits(digits)


def is_minus(row):
    return row[:1] == [DASH]


def amount_parts(row):
    """The parts of an amount ahead of its point and behind it, its sign left out."""
    return parts_of(row[1:] if is_minus(row) else row, POINT)


def is_amount(row):
    parts = amount_parts(row)
    if len(parts) > 2 or not is_whole(parts[0]):
        return False
    return len(parts) == 1 or is_rest(parts[1])


def amount_of(row):
    """The amount that a row tells, counted in ten-thousandths so that it is a whole number."""
    parts = amount_parts(row)
    rest = parts[1] if len(parts) == 2 else []
    size = number_of(parts[0] + rest + [ZERO] * (MOST_REST_DIGITS - len(rest)))
    return -size if is_minus(row) else size


def told_amount(amount):
    """The bytes that tell an amount of ten-thousandths, with no more digits behind the point than it needs."""
    sign = "-" if amount < 0 else ""
    whole = abs(amount) // ONE
    rest = str(abs(amount) % ONE).zfill(MOST_REST_DIGITS).rstrip("0")
    point = "." if len(rest) > 0 else ""
    return [ord(letter) for letter in f"{sign}{whole}{point}{rest}"]
