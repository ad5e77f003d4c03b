import unittest

from tests.support import EVEN, CheckCase, entry


class HowMany(CheckCase):
    def test_none(self):
        self.wrong_at_end("2026-01-01\n")
        self.wrong_at_end("2026-01-01 text\n")
        self.wrong_at_end(EVEN + "2026-01-01\n")

    def test_one(self):
        for movement in ("a", "a 0 EUR", "a 1 EUR", "a -0.0 EUR"):
            self.wrong_at_end(entry([movement]))
            self.wrong_at_end(EVEN + entry([movement]))

    def test_two(self):
        self.journal(entry(["a 1 EUR", "b -1 EUR"]))
        self.journal(entry(["a 1 EUR", "b"]))
        self.journal(entry(["a", "b 1 EUR"]))
        self.journal(entry(["a 0 EUR", "b"]))

    def test_remarks_and_blanks_are_no_movements(self):
        self.wrong_at_end("2026-01-01\n a 0 EUR\n # b 0 EUR\n \n")

    def test_sixty_four(self):
        self.journal(entry(["a 0 EUR"] * 64))
        self.journal(entry(["a 1 EUR", "b -1 EUR"] * 32))
        self.journal(entry(["a 1 EUR"] * 63 + ["b"]))
        self.journal(entry(["b"] + ["a 1 EUR"] * 63) + entry(["a 1 EUR"] * 63 + ["b"]))

    def test_sixty_five(self):
        self.wrong_at_last(entry(["a 0 EUR"] * 65))
        self.wrong_at_last(EVEN + entry(["a 0 EUR"] * 65))
        self.wrong_at_last(entry(["a 0 EUR"] * 64 + ["b"]))
        self.wrong_at_last(entry(["b"] + ["a 0 EUR"] * 64))
        self.wrong_at_last(entry(["a 1 EUR"] * 64 + ["b -64 EUR"]))

    def test_sixty_four_that_do_not_come_out(self):
        self.wrong_at_end(entry(["a 0 EUR"] * 63 + ["a 1 EUR"]))
        self.wrong_at_end(EVEN + entry(["a 1 EUR"] * 64))

    def test_one_that_moves_several_is_one(self):
        self.journal(entry(["a 1 A"] * 60 + ["a 1 B", "a 1 C", "a 1 D", "b"]))


class WithoutAmount(CheckCase):
    def test_at_any_place(self):
        movements = ["a 1 EUR", "b 2 USD", "c -0.5 EUR"]
        for place in range(4):
            self.journal(entry(movements[:place] + ["d"] + movements[place:]))

    def test_two(self):
        self.wrong_at_last(entry(["a", "b"]))
        self.wrong_at_last(entry(["a", "a"]))
        self.wrong_at_last(entry(["a 1 EUR", "b", "c"]))
        self.wrong_at_last(entry(["a", "b 1 EUR", "c"]))
        self.wrong_at_last(entry(["a 1 EUR", "b -1 EUR", "c", "d"]))
        self.wrong(entry(["a", "b", "c", "d 1"]), 3)

    def test_one_in_each_of_several_entries(self):
        self.journal(entry(["a 1 EUR", "b"]) * 5)

    def test_nothing_to_move(self):
        self.journal(entry(["a 1 EUR", "b -1 EUR", "c"]))
        self.journal(entry(["c", "a 0 EUR"]))
        self.journal(entry(["c", "a 1 EUR", "b -1 EUR", "a -3 USD", "b 3 USD"]))

    def test_several_kinds_to_move(self):
        self.journal(entry(["a 1 EUR", "a 2 USD", "a -3 CHF", "b"]))

    def test_does_not_serve_another_entry(self):
        self.wrong_at_end(entry(["a", "b 1 EUR"]) + entry(["a 1 EUR", "b 1 EUR"]))
        self.wrong(entry(["a 1 EUR", "b 1 EUR"]) + entry(["a -2 EUR", "b"]), 4)


class ComingOut(CheckCase):
    def test_kinds_that_come_out(self):
        self.journal(entry(["a 1 EUR", "b 2 USD", "c -2 USD", "d -1 EUR"]))
        self.journal(entry(["a 0.3 EUR", "b -0.1 EUR", "c -0.2 EUR"]))
        self.journal(entry(["a 1 EUR", "a -1 EUR"]))

    def test_kinds_that_do_not(self):
        self.wrong_at_end(entry(["a 1 EUR", "b 1 EUR"]))
        self.wrong_at_end(entry(["a 1 EUR", "b -1 USD"]))
        self.wrong_at_end(entry(["a 1 EUR", "b -1 EUR", "c 1 USD"]))
        self.wrong_at_end(entry(["c 1 USD", "a 1 EUR", "b -1 EUR"]))
        self.wrong_at_end(entry(["a 1 EUR", "b -0.9999 EUR"]))
        self.wrong_at_end(EVEN + entry(["a 1 EUR", "b -2 EUR"]))

    def test_no_other_entry_makes_up_for_it(self):
        self.wrong(entry(["a 1 EUR", "b 0 EUR"]) + entry(["a -1 EUR", "b 0 EUR"]), 4)

    def test_the_same_day_twice_is_two_entries(self):
        self.wrong("2026-01-01\n a 1 EUR\n2026-01-01\n b -1 EUR\n", 3)

    def test_a_wrong_movement_comes_ahead_of_it(self):
        self.wrong("2026-01-01\n a 1 EUR\n b 1 EUR\n c 1 E1\n" + EVEN, 4)

    def test_a_wrong_day_behind_it_is_the_same_line(self):
        self.wrong("2026-01-01\n a 1 EUR\n b 1 EUR\n\n2026-02-30\n", 5)


if __name__ == "__main__":
    unittest.main()
