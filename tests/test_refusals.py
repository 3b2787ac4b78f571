"""Promise 2: what way, least and stuck refuse, and the asks."""

import unittest

from tests.helper import TIME, asked, least, load, replies, steps, stuck, told, way

TWO = told("machine A", "place p", "place q", "edge p q", "machine B", "place p", "place r", "edge p r")
SETTING = ("edge p p set a", "edge p p set b", "edge p p set c", "edge p p set d")
# Clocks at 0 to 16 each, any together: 83521 states.
MANY = told("clock a", "clock b", "clock c", "clock d", "machine A", "place p", "place q", *SETTING)
NINE = " a<=9 b<=9 c<=9 d<=9"
# Five places, four clocks at 0 to 9 each: 50000 states.
FULL = told("clock a", "clock b", "clock c", "clock d", "machine A",
            *["place " + name + NINE for name in "pqrst"], *SETTING,
            "edge p q", "edge q r", "edge r s", "edge s t")
# One more: u, with all clocks at 9.
OVER = told(FULL, "place u" + NINE, "edge t u when a>=9 b>=9 c>=9 d>=9")


class NothingTaken(unittest.TestCase):
    def test_alone(self):
        self.assertEqual(replies(way(""), least(""), stuck()), [[-2], [-2], [-2]])

    def test_ahead_of_all_others(self):
        self.assertEqual(replies(way("", -1), way("?", 65537), least("?"), stuck(-1), stuck(65537)), [[-2]] * 5)
        self.assertEqual(replies(way(" " * 257), least(" " * 257)), [[-2], [-2]])


class OutOfRange(unittest.TestCase):
    def test_most(self):
        for most in (-1, 65537, -2147483648, 2147483647):
            self.assertEqual(asked(TWO, way("", most), stuck(most)), [[-1], [-1]])
        for most in (0, 65536):
            self.assertEqual(asked(TWO, way("", most), stuck(most)), [[0], [-6]])

    def test_how_many_bytes(self):
        self.assertEqual(asked(TWO, way(" " * 256), least(" " * 256)), [[0], [0]])
        self.assertEqual(asked(TWO, way(" " * 257), least(" " * 257)), [[-1], [-1]])

    def test_ahead_of_the_later_ones(self):
        self.assertEqual(asked(TWO, way("A.r", -1), way("A.p A.q", 65537)), [[-1], [-1]])
        self.assertEqual(asked(MANY, way("", -1), way("A.x", 65537), stuck(-1), stuck(65537)), [[-1]] * 4)


class Asks(unittest.TestCase):
    def test_none_asks_for_anything(self):
        self.assertEqual(asked(TWO, way(""), way("   "), least(""), least(" ")), [[0]] * 4)

    def test_several(self):
        self.assertEqual(asked(TWO, way("A.q B.r"), way("  B.r   A.q  "), way("A.q A.q"), way("A.q B.p")),
                         [steps([0, 0, -1, -1], [1, 0, -1, -1])] * 2 + [steps([0, 0, -1, -1])] * 2)

    def test_two_places_of_one_machine(self):
        self.assertEqual(asked(TWO, way("A.p A.q"), least("A.p A.q")), [[-6], [-6]])

    def test_wrong(self):
        for asks in ("A", "p", "A.", ".p", ".", "..", "A.r", "B.q", "C.p", "a.p", "A.P", "A.p.", "A..p", ".A.p", "A. p",
                     "A .p", "A.p,B.p", "A.pB.p", "A.p.q", "A:p", "A.p B", "A.p B.q", "C.p A.p", "A.p\n", "A.p\nB.p",
                     "A.p\tB.p", "\n", "\t", "\x00", "\xff", "A.p\xe9", "p.A", "A.p" * 85):
            self.assertEqual(asked(TWO, way(asks), least(asks)), [[-5], [-5]], asks)

    def test_ahead_of_the_later_ones(self):
        self.assertEqual(asked(MANY, way("A.x"), least("A.x"), way("B.p", 0)), [[-5]] * 3)
        self.assertEqual(asked(TWO, way("A.p A.q A.x"), least("A.p A.q A.x")), [[-5], [-5]])


class ManyStates(unittest.TestCase):
    def test_ahead_of_the_later_ones(self):
        self.assertEqual(asked(MANY, way(""), way("A.p", 0), way("A.q"), least(""), least("A.q"), stuck(), stuck(0)),
                         [[-3]] * 7)

    def test_just_as_many(self):
        onward = [[0, 4, -1, -1], [0, 5, -1, -1], [0, 6, -1, -1], [0, 7, -1, -1]]
        self.assertEqual(asked(FULL, way("A.t", 4), way("A.t", 3), least("A.t"), stuck()),
                         [steps(*onward), [-4], [0], steps(*[TIME] * 9, *onward)])

    def test_one_more(self):
        self.assertEqual(asked(OVER, way(""), way("A.u"), least("A.p"), stuck()), [[-3]] * 4)

    def test_far_more(self):
        # About 40 million: they are not gone through to the end.
        wide = [line for name in "ABC" for line in ["machine " + name, *["place p" + str(n) for n in range(8)],
                                                    *[f"edge p{n} p{n + 1}" for n in range(7)]]]
        text = told("clock a", "clock b", "clock c", "clock d", *wide, *[f"edge p0 p0 set {name}" for name in "abcd"])
        self.assertEqual(asked(text, way("A.p0", 0), least("A.p0"), stuck()), [[-3]] * 3)

    def test_only_states_that_can_be_come_to_count(self):
        text = told(MANY, "machine B", "place w a<=0", "place v")
        self.assertEqual(asked(text, way("B.v"), least("")), [[-6], [0]])

    def test_refusal_changes_nothing(self):
        self.assertEqual(replies(load(TWO), way("", -1), way("x"), least("x"), stuck(-1), way("A.q A.p"), way("A.q", 0),
                                 way("A.q")),
                         [[0], [-1], [-5], [-5], [-1], [-6], [-4], steps([0, 0, -1, -1])])

    def test_small_text_behind_a_large_one(self):
        self.assertEqual(replies(load(MANY), way(""), load(TWO), way("")), [[0], [-3], [0], [0]])


if __name__ == "__main__":
    unittest.main()
