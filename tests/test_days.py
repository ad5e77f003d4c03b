import datetime
import unittest

from tests.support import EVEN, CheckCase

MOVEMENTS = "\n a 1 EUR\n b -1 EUR\n"


class Days(CheckCase):
    def good(self, first):
        self.journal(first + MOVEMENTS)
        self.journal(EVEN + first + MOVEMENTS)

    def bad(self, first):
        self.wrong_at_last(first)
        self.wrong_at_last(EVEN + first)

    def test_first_and_last(self):
        for day in ("1583-01-01", "1583-01-02", "9999-12-30", "9999-12-31"):
            self.good(day)
        for day in ("1582-12-31", "1582-10-15", "0000-01-01", "0001-01-01", "10000-01-01", "9999-12-32"):
            self.bad(day)

    def test_leap_years(self):
        for year in ("1584", "1600", "2000", "2024", "2400", "9996"):
            self.good(year + "-02-29")
            self.bad(year + "-02-30")
        for year in ("1583", "1700", "1800", "1900", "2026", "2100", "9999"):
            self.good(year + "-02-28")
            self.bad(year + "-02-29")

    def test_every_month_and_day(self):
        for year in (2023, 2024):
            for month in range(100):
                for day in range(100):
                    text = f"{year}-{month:02}-{day:02}"
                    try:
                        datetime.date(year, month, day)
                    except ValueError:
                        self.wrong(text + MOVEMENTS, 1)
                    else:
                        self.journal(text + MOVEMENTS)

    def test_every_year(self):
        for year in range(0, 10000):
            leap = year % 4 == 0 and (year % 100 != 0 or year % 400 == 0)
            text = f"{year:04}-02-29" + MOVEMENTS
            if leap and year >= 1583:
                self.journal(text)
            else:
                self.wrong(text, 1)

    def test_signs_that_are_none(self):
        day = "2026-11-18"
        for place in range(10):
            for sign in "/:a-. +\xb2\xff\x00":
                if sign != day[place]:
                    self.bad(day[:place] + sign + day[place + 1:])

    def test_any_digit_for_a_dash(self):
        self.bad("2026011018")
        self.bad("2026-01018")
        self.bad("2026001-18")

    def test_too_short_or_too_long(self):
        for text in ("2", "2026", "2026-01", "2026-01-", "2026-01-1", "2026-1-01", "26-01-01", "2026-01-011"):
            self.bad(text)
            self.bad(text + " x")

    def test_a_text_behind(self):
        for text in (" x", "\tx", " ", "\t", "  2026-02-30 ", " : -1 EUR", " \x00\xff"):
            self.good("2026-01-01" + text)

    def test_a_text_behind_and_no_blank_between(self):
        for text in ("x", "-", ":", "0", "\r", "x y", "\xa0", "\x00"):
            self.bad("2026-01-01" + text)


if __name__ == "__main__":
    unittest.main()
