"""Promise 1, and "Texts"."""

import unittest

from tests.helper import TIME, asked, least, load, loaded, replies, steps, stuck, told, way

SMALL = told("machine A", "place p")
KEPT = ("clock", "signal", "machine", "place", "edge", "when", "set", "give", "take")


class TakenTexts(unittest.TestCase):
    def test_smallest(self):
        self.assertEqual(loaded(SMALL), [0])

    def test_all_kinds_of_lines(self):
        text = told("clock x", "clock y", "signal s", "machine A", "place p", "place q x<=3 y>=0",
                    "edge p q when x>=1 y<=15 set x y give s", "machine B", "place p x<=15",
                    "edge p p take s")
        self.assertEqual(loaded(text), [0])

    def test_newline_at_the_end(self):
        self.assertEqual(loaded(SMALL + "\n"), [0])

    def test_clocks_and_signals_mixed_and_alike(self):
        self.assertEqual(loaded(told("signal x", "clock x", "signal y", "clock y", "machine x", "place x")), [0])

    def test_same_place_name_in_two_machines(self):
        self.assertEqual(loaded(told("machine A", "place p", "machine B", "place p")), [0])

    def test_places_behind_edges(self):
        self.assertEqual(loaded(told("machine A", "place p", "edge p p", "place q", "edge q p")), [0])


class Lines(unittest.TestCase):
    def test_empty_lines_and_spaces_count_but_are_nothing(self):
        self.assertEqual(loaded(told("", "   ", "machine A", "", "place p", " ")), [0])
        self.assertEqual(loaded(told("", "   ", "machine A", "", "places p")), [6])

    def test_several_spaces(self):
        text = told("  clock   x  ", " machine  A ", "  place  p   x<=3 ", "edge  p  p   when  x<=1   set  x ")
        self.assertEqual(loaded(text), [0])

    def test_only_spaces_part_words(self):
        for byte in (0, 9, 11, 13, 160, 255):
            text = b"machine A\nplace" + bytes([byte]) + b"p"
            self.assertEqual(loaded(text), [3], byte)
            self.assertEqual(loaded(b"machine A" + bytes([byte]) + b"\nplace p"), [2], byte)

    def test_only_byte_ten_parts_lines(self):
        self.assertEqual(loaded("machine A\rplace p"), [2])

    def test_lone_strange_byte_is_a_word(self):
        self.assertEqual(loaded(b"\t\nmachine A\nplace p"), [2])

    def test_unknown_first_word(self):
        for word in ("Clock", "clocks", "x", "when", "set", "give", "take", "0", "?"):
            self.assertEqual(loaded(told("machine A", "place p", word + " x")), [4], word)

    def test_first_wrong_line_is_answered(self):
        self.assertEqual(loaded(told("clock x", "clock x", "nothing", "place p")), [3])
        self.assertEqual(loaded("?"), [2])

    def test_longest_text(self):
        self.assertEqual(loaded(SMALL + " " * (4096 - len(SMALL))), [0])
        self.assertEqual(loaded("\n" * 4095 + "?"), [4097])

    def test_text_too_long_changes_nothing(self):
        too_long = load(SMALL + " " * (4097 - len(SMALL)))
        self.assertEqual(replies(too_long, way("")), [[-1], [-2]])
        self.assertEqual(replies(load(SMALL), too_long, way("A.p")), [[0], [-1], [0]])


class Names(unittest.TestCase):
    def lines_with(self, name):
        return (told("clock " + name, "machine A", "place p"), told("signal " + name, "machine A", "place p"),
                told("machine " + name, "place p"), told("machine A", "place " + name))

    def test_names(self):
        for name in ("a", "z", "A", "Z", "a0", "Z9z", "abcdefghijklmno", "ABCDEFGHIJKLM15",
                     "Clock", "sets", "whe", "givE"):
            for text in self.lines_with(name):
                self.assertEqual(loaded(text), [0], text)

    def test_no_names(self):
        wrong = ("abcdefghijklmnop", "0", "9a", "a_b", "a-b", "a.b", "a?", "x<=3", "\xe9", "a\xe9", "@", "[", "`", "{",
                 "a/", "a:") + KEPT
        for name in wrong:
            for text, line in zip(self.lines_with(name), (1, 1, 1, 2)):
                self.assertEqual(loaded(text), [line + 1], text)


class Bounds(unittest.TestCase):
    def place(self, bound):
        return loaded(told("clock x", "clock yy", "signal s", "machine A", "place p " + bound))

    def edge(self, bound):
        return loaded(told("clock x", "clock yy", "signal s", "machine A", "place p", "edge p p when " + bound))

    def test_bounds(self):
        for bound in ("x<=0", "x>=0", "x<=15", "x>=15", "x<=00", "x<=07", "yy>=9", "yy<=10", "x<=3 x>=5",
                      "x<=3 yy<=3 x<=3 x>=1"):
            self.assertEqual(self.place(bound), [0], bound)
            self.assertEqual(self.edge(bound), [0], bound)

    def test_no_bounds(self):
        for bound in ("x<=16", "x>=16", "x<=99", "x<=000", "x<=015", "x<=001", "x<=", "<=3", "x<3", "x>3", "x=3",
                      "x==3", "z<=3", "s<=3", "y<=3", "yyy<=3", "X<=3", "x<=-1", "x<=+1", "x<=a", "x<=1a", "x", "3",
                      "x<= 3", "x <=3", "x=<3", "x=>3", "3>=x", "x<=>=3", "x>=<=3", "x<=3<=4", "x<=1.", "x<=\xb2",
                      "x<=3 z<=3", "x>=3x<=4"):
            self.assertEqual(self.place(bound), [6], bound)
            self.assertEqual(self.edge(bound), [7], bound)

    def test_numbers_by_two_digits_mean_the_same(self):
        text = told("clock x", "machine A", "place p x<=07", "place q", "edge p q when x>=07")
        self.assertEqual(asked(text, way("A.q"))[0][0], 8)

    def test_clock_of_another_text(self):
        with_clock = load(told("clock x", "machine A", "place p x<=1"))
        without = load(told("machine A", "place p x<=1"))
        self.assertEqual(replies(with_clock, without, with_clock), [[0], [3], [0]])


class ClocksAndSignals(unittest.TestCase):
    def test_most(self):
        for kind, most in (("clock", 4), ("signal", 8)):
            lines = [f"{kind} n{number}" for number in range(most + 1)]
            self.assertEqual(loaded(told(*lines[:most], SMALL)), [0])
            self.assertEqual(loaded(told(*lines, SMALL)), [most + 2])

    def test_most_of_one_leaves_the_other_alone(self):
        lines = [f"clock n{number}" for number in range(4)] + [f"signal n{number}" for number in range(8)]
        self.assertEqual(loaded(told(*lines, SMALL)), [0])

    def test_twice(self):
        for kind in ("clock", "signal"):
            self.assertEqual(loaded(told(kind + " a", kind + " b", kind + " a", SMALL)), [4])
            self.assertEqual(loaded(told(kind + " a", kind + " A", SMALL)), [0])

    def test_how_many_words(self):
        for kind in ("clock", "signal"):
            self.assertEqual(loaded(told(kind, SMALL)), [2])
            self.assertEqual(loaded(told(kind + " a b", SMALL)), [2])

    def test_behind_the_first_machine(self):
        for kind in ("clock", "signal"):
            self.assertEqual(loaded(told("machine A", kind + " a", "place p")), [3])
            self.assertEqual(loaded(told("machine A", "place p", kind + " a")), [4])


class Machines(unittest.TestCase):
    def test_most(self):
        lines = [told(f"machine M{number}", "place p") for number in range(4)]
        self.assertEqual(loaded(told(*lines[:3])), [0])
        self.assertEqual(loaded(told(*lines)), [8])

    def test_twice(self):
        self.assertEqual(loaded(told("machine A", "place p", "machine B", "place p", "machine A", "place p")), [6])

    def test_how_many_words(self):
        self.assertEqual(loaded(told("machine", "place p")), [2])
        self.assertEqual(loaded(told("machine A B", "place p")), [2])

    def test_without_place_before_the_next(self):
        self.assertEqual(loaded(told("machine A", "machine B", "place p")), [3])
        self.assertEqual(loaded(told("machine A", "place p", "machine B", "", "machine C", "place p")), [6])

    def test_without_place_at_the_end(self):
        self.assertEqual(loaded("machine A"), [1])
        self.assertEqual(loaded(told("machine A", "place p", "machine B", "")), [1])

    def test_none_at_all(self):
        for text in ("", " ", "\n", "\n \n", told("clock x", "signal s")):
            self.assertEqual(loaded(text), [1], text)


class Places(unittest.TestCase):
    def test_most(self):
        lines = [f"place p{number}" for number in range(9)]
        self.assertEqual(loaded(told("machine A", *lines[:8])), [0])
        self.assertEqual(loaded(told("machine A", *lines)), [11])
        self.assertEqual(loaded(told("machine A", *lines[:8], "machine B", *lines[:8])), [0])

    def test_twice(self):
        self.assertEqual(loaded(told("machine A", "place p", "place q", "place p")), [5])

    def test_no_name(self):
        self.assertEqual(loaded(told("machine A", "place")), [3])

    def test_before_the_first_machine(self):
        self.assertEqual(loaded(told("place p", "machine A", "place p")), [2])

    def test_no_words_but_bounds(self):
        self.assertEqual(loaded(told("clock x", "machine A", "place p q")), [4])
        self.assertEqual(loaded(told("clock x", "machine A", "place p when x<=3")), [4])
        self.assertEqual(loaded(told("clock x", "machine A", "place p x<=3 q")), [4])

    def test_begins_at_the_first_place(self):
        text = told("machine A", "place q", "place p")
        self.assertEqual(asked(text, way("A.q"), way("A.p")), [[0], [-6]])


class Edges(unittest.TestCase):
    ahead = ("clock x", "clock y", "signal s", "machine Z", "place o", "machine A", "place p", "place q")

    def edge(self, words):
        return loaded(told(*self.ahead, "edge" + words))

    def test_parts(self):
        for words in (" p q", " p p", " q p", " p q when x<=3", " p q when", " p q when x<=3 y>=1 x>=0", " p q set",
                      " p q set x", " p q set x y", " p q set x x", " p q give s", " p q take s",
                      " p q when x<=3 set y", " p q when set", " p q when set give s", " p q set y give s",
                      " p q when x<=3 take s", " p q when x<=3 set x y take s"):
            self.assertEqual(self.edge(words), [0], words)

    def test_wrong_parts(self):
        for words in ("", " p", " p when x<=3", " o p", " p o", " r p", " p r", " P q", " p q r", " p q x<=3",
                      " p q when z<=3", " p q when x<=3 y", " p q when x", " p q set z", " p q set x s",
                      " p q set x<=3", " p q set x when x<=3", " p q give s when x<=3", " p q give s set x",
                      " p q give", " p q take", " p q give x", " p q give t", " p q take t", " p q give s s",
                      " p q give s take s", " p q give s give s", " p q when x<=3 when y<=3", " p q set x set y",
                      " p q s", " p q gives s", " p q x s", " p q when when", " p q set set", " p q give take",
                      " p q set x give", " p q when x<=3 take"):
            self.assertEqual(self.edge(words), [10], words)

    def test_most(self):
        lines = ["edge p p"] * 17
        self.assertEqual(loaded(told("machine A", "place p", *lines[:16])), [0])
        self.assertEqual(loaded(told("machine A", "place p", *lines)), [20])
        both = told("machine A", "place p", *lines[:16], "machine B", "place p", *lines[:16])
        self.assertEqual(loaded(both), [0])

    def test_places_told_before(self):
        self.assertEqual(loaded(told("machine A", "place p", "edge p q", "place q")), [4])
        self.assertEqual(loaded(told("machine A", "place p", "edge q p", "place q")), [4])

    def test_before_the_first_machine_or_place(self):
        self.assertEqual(loaded(told("edge p p", "machine A", "place p")), [2])
        self.assertEqual(loaded(told("machine A", "edge p p", "place p")), [3])


class Forgetting(unittest.TestCase):
    def test_wrong_text_behind_a_taken_one(self):
        for text, answer in (("?", 2), ("", 1), ("machine B", 1), (told("machine B", "place p", "place p"), 4)):
            self.assertEqual(replies(load(SMALL), stuck(), load(text), way(""), stuck(), load(SMALL), way("A.p")),
                             [[0], [-6], [answer], [-2], [-2], [0], [0]])

    def test_another_text_behind_a_taken_one(self):
        other = told("machine B", "place q")
        self.assertEqual(replies(load(SMALL), way("A.p"), load(other), way("A.p"), way("B.q")),
                         [[0], [0], [0], [-5], [0]])

    def test_nothing_found_out_before_is_left(self):
        one = told("clock x", "machine A", "place p x<=1", "place q", "edge p q when x>=1")
        two = told("clock x", "machine A", "place p x<=2", "place q x<=2", "edge p q when x>=2")
        found = [steps(TIME, [0, 0, -1, -1]), [1], [-6]]
        others = [steps(TIME, TIME, [0, 0, -1, -1]), [2], steps(TIME, TIME, [0, 0, -1, -1])]
        calls = (way("A.q"), least("A.q"), stuck())
        self.assertEqual(replies(load(one), *calls, load(two), *calls, load(one), *calls),
                         [[0], *found, [0], *others, [0], *found])


if __name__ == "__main__":
    unittest.main()
