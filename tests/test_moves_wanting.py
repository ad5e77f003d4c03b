"""What the movement without an amount moves, and where that is told."""

import unittest

from tests.support import MovesCase, capital_word, entry, zero_entries


class WithoutAmount(MovesCase):
    def moved(self, movements, told, **asked):
        """An entry's movements, and what is told of them behind the day."""
        self.told(entry(movements), ["2026-01-01 " + line for line in told], **asked)

    def test_one_kind(self):
        self.moved(["a 1 A", "b 2 A", "c"], ["a 1 A 1", "b 2 A 3", "c -3 A 0"])
        self.moved(["a -1.5 A", "c"], ["a -1.5 A -1.5", "c 1.5 A 0"])

    def test_several_kinds_in_the_order_in_which_they_come_first(self):
        written = ["a 1 C", "a -2 A", "b 3 B", "b 1 C"]
        self.moved(written + ["d"], ["d -2 C -2", "d 2 A 2", "d -3 B -3"], account="d")

    def test_only_the_kinds_that_do_not_come_out(self):
        self.moved(["a 1 A", "b -1 A", "a 1 B", "c"], ["c -1 B -1"], account="c")
        self.moved(["a 1 C", "a 1 A", "b -1 C", "a 1 B", "c"], ["c -1 A -1", "c -1 B -1"], account="c")

    def test_a_kind_that_came_out_between_keeps_its_place(self):
        self.moved(["a 1 B", "a -1 B", "a 1 A", "a 1 B", "c"], ["c -1 B -1", "c -1 A -1"], account="c")
        self.moved(["a 0 B", "a 1 A", "a 1 B", "c"], ["c -1 B -1", "c -1 A -1"], account="c")

    def test_none(self):
        self.moved(["a 1 A", "b -1 A", "c"], ["a 1 A 1", "b -1 A 0"])
        self.moved(["a 1 A", "b -1 A", "c"], [], account="c")
        self.moved(["c", "a 0 A"], ["a 0 A 0"])

    def test_as_the_first_line(self):
        self.moved(["d", "a 1 A", "b 2 A"], ["d -3 A -3", "a 1 A -2", "b 2 A 0"])
        self.moved(
            ["d", "a 1 B", "b 2 A", "b 4 B"],
            ["d -5 B -5", "d -2 A -2", "a 1 B -4", "b 2 A 0", "b 4 B 0"],
        )

    def test_in_the_middle(self):
        self.moved(["a 1 A", "d", "b 2 A"], ["a 1 A 1", "d -3 A -2", "b 2 A 0"])
        self.moved(
            ["a 1 B", "d", "b 2 A", "b 4 B", "c 1 C"],
            ["a 1 B 1", "d -5 B -4", "d -2 A -2", "d -1 C -1", "b 2 A 0", "b 4 B 0", "c 1 C 0"],
        )

    def test_at_every_place_of_the_longest_entry(self):
        kinds = [capital_word(number) for number in range(16)]
        written = [f"a 1 {kinds[number % 16]}" for number in range(63)]
        for place in range(64):
            sums = dict.fromkeys(kinds, 0)
            lines = []
            wanted = [f"b {'-3' if kind == kinds[15] else '-4'} {kind}" for kind in kinds]
            for line in written[:place] + wanted + written[place:]:
                _, amount, kind = line.split()
                sums[kind] += int(amount)
                lines.append(f"{line} {sums[kind]}")
            self.moved(written[:place] + ["b"] + written[place:], lines)

    def test_the_kinds_of_its_own_entry_alone(self):
        text = entry(["a 1 A", "a 1 B", "c"]) + entry(["a 1 B", "c", "a 1 A"])
        self.told(
            text,
            ["2026-01-01 c -1 A -1", "2026-01-01 c -1 B -1", "2026-01-01 c -1 B -2", "2026-01-01 c -1 A -2"],
            account="c",
        )

    def test_in_each_of_several_entries(self):
        text = entry(["b", "a 1 A"]) + entry(["a 2 A", "b", "c 4 A"]) + entry(["c 8 A", "b"])
        self.told(text, [
            "2026-01-01 b -1 A -1", "2026-01-01 a 1 A 0", "2026-01-01 a 2 A 2", "2026-01-01 b -6 A -4",
            "2026-01-01 c 4 A 0", "2026-01-01 c 8 A 8", "2026-01-01 b -8 A 0",
        ])

    def test_behind_remarks_and_blank_lines(self):
        text = "2026-01-01\n# x\n\n b # y\n \n a 1 A\n#\n\n2026-01-02\n a 2 A\n\n b\n#\n c 3 A"
        self.told(text, [
            "2026-01-01 b -1 A -1", "2026-01-01 a 1 A 0", "2026-01-02 a 2 A 2", "2026-01-02 b -5 A -3",
            "2026-01-02 c 3 A 0",
        ])

    def test_it_belongs_to_its_own_account(self):
        text = entry(["a:b 1 A", "c:d"]) + entry(["e", "a:b 2 A"]) + entry(["a:b 4 A", "c:d -4 A"])
        self.told(text, ["2026-01-01 c:d -1 A -1", "2026-01-01 c:d -4 A -5"], account="c")
        self.told(text, ["2026-01-01 e -2 A -2"], account="e")

    def test_an_account_that_stands_with_an_amount_too(self):
        self.moved(["a 3 A", "a", "b -1 A"], ["a 3 A 3", "a -2 A 1"], account="a")
        self.moved(["a", "a 3 A"], ["a -3 A -3", "a 3 A 0"], account="a")

    def test_it_belongs_to_its_entrys_day(self):
        text = entry(["a 1 A", "b"], "2026-01-02") + entry(["b", "c 2 A"], "2026-01-01")
        self.told(text, ["2026-01-01 b -2 A -2"], account="b", day="2026-01-01")
        self.told(text, ["2026-01-01 b -2 A -2", "2026-01-02 b -1 A -3"], account="b", day="2026-01-02")
        later = text + entry(["b", "a 4 A"], "2026-01-03")
        self.told(later, ["2026-01-01 b -2 A -2", "2026-01-02 b -1 A -3"], account="b", day="2026-01-02")

    def test_behind_4094_others(self):
        text = zero_entries(4094) + entry(["b", "c 1 A"])
        self.told(text, ["2026-01-01 b -1 A -1"], account="b")
        self.told(text, ["2026-01-01 a 0 A 0"] * 4094 + ["2026-01-01 b -1 A -1", "2026-01-01 c 1 A 0"])


if __name__ == "__main__":
    unittest.main()
