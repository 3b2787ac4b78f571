"""Promise 4."""

import unittest

from tests.helper import TIME, asked, least, steps, told, way


class Least(unittest.TestCase):
    def test_shortest_way_is_not_of_the_least_time(self):
        text = told("clock x", "machine A", "place p", "place q", "place a", "place b", "place c",
                    "edge p q when x>=2", "edge p a", "edge a b", "edge b c", "edge c q")
        self.assertEqual(asked(text, way("A.q"), least("A.q")), [steps(TIME, TIME, [0, 0, -1, -1]), [0]])

    def test_detour_that_takes_less_time(self):
        # Straight on, x must show 9; the long way round is done when y shows 3.
        text = told("clock x", "clock y", "machine A", "place p", "place q", *["place m" + str(n) for n in range(6)],
                    "edge p q when x>=4", "edge p m0 when y>=1", "edge m0 m1", "edge m1 m2 when y>=2", "edge m2 m3",
                    "edge m3 q")
        self.assertEqual(asked(text, way("A.q"), least("A.q"), least("A.m3")),
                         [steps(*[TIME] * 4, [0, 0, -1, -1]), [2], [2]])

    def test_no_units(self):
        text = told("clock x", "machine A", "place p", "place q", "edge p q when x<=0")
        self.assertEqual(asked(text, least("A.p"), least("A.q"), least("")), [[0], [0], [0]])

    def test_units(self):
        for number in (1, 2, 15):
            text = told("clock x", "machine A", "place p", "place q", f"edge p q when x>={number}")
            self.assertEqual(asked(text, least("A.q")), [[number]])

    def test_more_units_than_any_clock_shows(self):
        text = told("clock x", "machine A", "place p", "place q", "place r", "place s",
                    "edge p q when x>=15 set x", "edge q r when x>=15 set x", "edge r s when x>=15")
        self.assertEqual(asked(text, least("A.q"), least("A.r"), least("A.s")), [[15], [30], [45]])

    def test_cannot_be_come_to(self):
        text = told("clock x", "machine A", "place p x<=3", "place q", "edge p q when x>=4")
        self.assertEqual(asked(text, least("A.q"), least("A.p A.q")), [[-6], [-6]])

    def test_several_asks(self):
        text = told("clock x", "machine A", "place p", "place q", "edge p q when x>=2",
                    "machine B", "place p", "place q", "edge p q when x>=5", "edge q p")
        self.assertEqual(asked(text, least("A.q"), least("B.q"), least("A.q B.q"), least("A.q B.p"), least("A.p B.q")),
                         [[2], [5], [5], [2], [5]])

    def test_meeting(self):
        text = told("clock x", "clock y", "signal s", "machine A", "place p", "place q", "edge p q when x>=3 give s",
                    "machine B", "place o", "place p", "place q", "edge o p when y>=1 set y",
                    "edge p q when y>=4 take s")
        self.assertEqual(asked(text, least("B.q"), least("A.q")), [[5], [5]])


if __name__ == "__main__":
    unittest.main()
