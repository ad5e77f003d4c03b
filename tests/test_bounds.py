import unittest

from tests.support import EVEN, CheckCase, capital_word, entry, zero_entries


class Movements(CheckCase):
    def test_4096(self):
        self.journal(zero_entries(4096))
        self.journal(zero_entries(4094) + EVEN)

    def test_4097(self):
        self.wrong_at_last(zero_entries(4095) + entry(["a 0 A", "a 0 A"]))
        self.wrong_at_last(zero_entries(4094) + entry(["a 0 A", "a 0 A", "a 0 A"]))
        self.wrong_at_last(zero_entries(4096) + entry(["a 0 A"]))
        self.wrong_at_last(zero_entries(4096) + entry(["b", "a 0 A"]))

    def test_what_one_without_an_amount_moves_counts(self):
        self.journal(zero_entries(4094) + entry(["a 1 A", "b"]))
        self.wrong_at_end(zero_entries(4095) + entry(["a 1 A", "b"]))
        self.wrong_at_end(zero_entries(4095) + entry(["b", "a 1 A"]))
        self.journal(zero_entries(4090) + entry(["a 1 A", "a 1 B", "a 1 C", "b"]))
        self.wrong_at_end(zero_entries(4091) + entry(["a 1 A", "a 1 B", "a 1 C", "b"]))
        self.wrong_at_end(zero_entries(4092) + entry(["b", "a 1 A", "a 1 B", "a 1 C"]))

    def test_what_it_moved_earlier_counts(self):
        moved = entry(["a 1 A", "a 1 B", "b"])
        self.journal(moved + zero_entries(4092))
        self.wrong_at_last(moved + zero_entries(4091) + entry(["a 0 A", "a 0 A"]))

    def test_one_that_moves_nothing_counts_as_none(self):
        self.journal(zero_entries(4095) + entry(["a 0 A", "b"]))
        self.journal(zero_entries(4094) + entry(["a 1 A", "b", "a -1 A"]))
        self.journal(entry(["a 0 A", "b"]) * 100 + zero_entries(3996))
        self.wrong_at_last(entry(["a 0 A", "b"]) * 100 + zero_entries(3995) + entry(["a 0 A", "a 0 A"]))

    def test_an_entry_that_does_not_come_out_at_4096(self):
        self.wrong_at_end(zero_entries(4095) + entry(["a 1 A"]))
        self.wrong_at_end(zero_entries(4094) + entry(["a 1 A", "a 1 A"]))

    def test_an_entry_begun_at_4096(self):
        self.wrong_at_end(zero_entries(4096) + "2026-01-01\n")
        self.wrong_at_end(zero_entries(4096) + entry(["b"]))

    def test_many_entries(self):
        self.journal(entry(["a 1 A", "b"]) * 2048)
        self.wrong(entry(["a 1 A", "b"]) * 2049, 2048 * 3 + 2)


class Accounts(CheckCase):
    def names(self, count):
        return [f"a{number}" for number in range(count)]

    def entries(self, names):
        return "".join([entry([name + " 0 A", "a0"]) for name in names])

    def test_256(self):
        self.journal(self.entries(self.names(256)))
        self.journal(self.entries(self.names(256)) * 2)

    def test_257(self):
        self.wrong_at_last(self.entries(self.names(256)) + entry(["b 0 A"]))
        self.wrong_at_last(self.entries(self.names(256)) + entry(["a1 0 A", "b"]))
        self.wrong_at_last(self.entries(self.names(256)) + entry(["a1:b"]))

    def test_those_without_an_amount_count(self):
        text = "".join([entry(["a0 0 A", name]) for name in self.names(256)])
        self.journal(text)
        self.wrong_at_last(text + entry(["b"]))

    def test_an_account_above_one_that_is_written_is_not(self):
        deep = [f"b:c:d{number}" for number in range(255)]
        self.journal(self.entries(deep))
        self.wrong_at_last(self.entries(deep) + entry(["b:c"]))

    def test_names_that_differ_in_their_parts(self):
        others = ["b:c", "b-c", "bc", "b_c", "b", "bc:c", "b:cc"]
        self.journal(self.entries(self.names(249) + others))
        self.wrong_at_last(self.entries(self.names(250) + others[:-1]) + entry([others[-1]]))


class Kinds(CheckCase):
    def movements(self, count):
        return [f"a 0 {capital_word(number)}" for number in range(count)]

    def test_16(self):
        self.journal(entry(self.movements(16)))
        self.journal(entry(self.movements(16)) * 3)
        self.journal("".join([entry([movement, "b"]) for movement in self.movements(16)]))

    def test_17(self):
        self.wrong_at_last(entry(self.movements(17)))
        self.wrong_at_last(entry(self.movements(16)) + entry(["a 0 ZZ"]))
        self.wrong_at_last("".join([entry([movement, "b"]) for movement in self.movements(16)]) + entry(["a 1 A"]))

    def test_one_that_begins_another_counts(self):
        kinds = ["A" * length for length in range(1, 9)] + ["B" * length for length in range(1, 9)]
        self.journal(entry([f"a 0 {kind}" for kind in kinds]))
        self.wrong_at_last(entry([f"a 0 {kind}" for kind in kinds] + ["a 0 AB"]))


class Sizes(CheckCase):
    def test_just_below(self):
        self.journal(entry(["a 49999999999999.9999 A", "b -49999999999999.9999 A"]))
        self.journal(entry(["a 49999999999999.9999 A", "b"]))
        self.journal(entry(["a -49999999999999.9999 A", "b"]))
        self.journal(entry(["a 24999999999999.9999 A", "b"]) + entry(["a -25000000000000 A", "b"]))

    def test_at_it_as_written(self):
        self.wrong_at_last(entry(["a 50000000000000 A", "b -50000000000000 A"]))
        self.wrong_at_last(entry(["a 99999999999999.9999 A", "b 0.0001 A"]))
        self.wrong_at_last(entry(["a 99999999999999.9999 A", "b", "c -0.0001 A"]))
        self.wrong_at_last(entry(["a -99999999999999.9999 A", "b -0.0001 A"]))
        self.wrong_at_last(entry(["a 49999999999999 A", "b"]) + entry(["a 2 A"]))

    def test_one_alone_is_below(self):
        self.wrong_at_end(entry(["a 99999999999999.9999 A", "b 0 A"]))
        self.wrong_at_end(entry(["a 49999999999999.9999 A", "b 50000000000000 A"]))

    def test_at_it_by_what_an_entry_wants(self):
        self.wrong_at_end(entry(["a 50000000000000 A", "b"]))
        self.wrong_at_end(entry(["b", "a -50000000000000 A"]))
        self.wrong_at_end(entry(["a 99999999999999.9999 A", "b"]))
        self.wrong_at_end(entry(["a 25000000000000 A", "b"]) + entry(["a 25000000000000 A", "b"]))
        self.wrong_at_end(entry(["a 1 B", "a 50000000000000 A", "a 1 C", "b"]))

    def test_what_an_entry_wanted_counts_later(self):
        half = entry(["a 49999999999999.9998 A", "b"])
        self.journal(half + entry(["a 0.0001 A", "b"]))
        self.wrong_at_end(half + entry(["a 0.0002 A", "b"]))
        self.wrong_at_last(half + entry(["a 0.0001 A", "a 0.0001 A", "b -0.0002 A"]))
        self.wrong_at_last(half + entry(["a 0.0004 A"]))

    def test_each_kind_by_itself(self):
        kinds = [capital_word(number) for number in range(16)]
        self.journal(entry([f"a 49999999999999.9999 {kind}" for kind in kinds] + ["b"]))

    def test_accounts_do_not_part_them(self):
        self.wrong_at_last(entry(["a 50000000000000 A", "b 1 A", "c -49999999999999 A"]))

    def test_what_comes_out_without_wanting_much(self):
        self.journal(entry(["a 49999999999999 A", "b -49999999999999 A", "c 0.5 A", "d"]))
        self.wrong_at_end(entry(["a 49999999999999 A", "b -49999999999999 A", "c 1 A", "d"]))


if __name__ == "__main__":
    unittest.main()
