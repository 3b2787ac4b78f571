"""Promise 5."""

import unittest

from tests.helper import TIME, asked, steps, stuck, told


class Stuck(unittest.TestCase):
    def test_at_once(self):
        text = told("clock x", "machine A", "place p x<=0")
        self.assertEqual(asked(text, stuck(), stuck(0)), [[0], [0]])

    def test_not_even_time(self):
        text = told("clock x", "machine A", "place p", "place q x<=3", "edge p q")
        self.assertEqual(asked(text, stuck()), [steps(TIME, TIME, TIME, [0, 0, -1, -1])])

    def test_none(self):
        for lines in (("machine A", "place p"), ("clock x", "machine A", "place p"),
                      ("clock x", "machine A", "place p x<=3", "edge p p set x"),
                      ("clock x", "machine A", "place p x<=3", "place q", "edge p q"),
                      ("clock x", "machine A", "place p", "place q x<=3", "edge p p")):
            self.assertEqual(asked(told(*lines), stuck()), [[-6]], lines)

    def test_time_alone_is_a_step(self):
        # Behind 16 time changes nothing any more, but goes by all the same.
        self.assertEqual(asked(told("clock x", "machine A", "place p", "place q x>=9", "edge p q"), stuck()), [[-6]])

    def test_an_edge_to_itself_is_a_step(self):
        self.assertEqual(asked(told("clock x", "machine A", "place p x<=0", "edge p p"), stuck()), [[-6]])

    def test_edges_that_cannot_be_done(self):
        text = told("clock x", "signal s", "machine A", "place p x<=1", "place q x>=2", "edge p q", "edge p p give s",
                    "edge p q when x>=2", "edge p p when x>=1 take s")
        self.assertEqual(asked(text, stuck()), [steps(TIME)])

    def test_meeting_is_a_step(self):
        one = told("clock x", "signal s", "machine A", "place p x<=1", "edge p p give s", "machine B", "place p")
        self.assertEqual(asked(one, stuck()), [steps(TIME)])
        self.assertEqual(asked(told(one, "edge p p take s"), stuck()), [[-6]])

    def test_first_found(self):
        text = told("clock x", "machine A", "place p", "place q x<=0", "place r x<=0", "edge p r", "edge p q")
        self.assertEqual(asked(text, stuck()), [steps([0, 0, -1, -1])])

    def test_most(self):
        text = told("clock x", "machine A", "place p x<=2", "place q x<=2", "edge p q when x>=2")
        self.assertEqual(asked(text, stuck(3), stuck(2), stuck(0)),
                         [steps(TIME, TIME, [0, 0, -1, -1]), [-4], [-4]])

    def test_none_is_looked_at_before_most(self):
        self.assertEqual(asked(told("machine A", "place p"), stuck(0)), [[-6]])

    def test_clocks_beyond_sixteen(self):
        # x is beyond 15 from the second round of y on; then p's way out is shut, and y ends it.
        text = told("clock x", "clock y", "machine A", "place p y<=15", "edge p p when x<=15 y>=15 set y")
        self.assertEqual(asked(text, stuck()), [steps(*[TIME] * 15, [0, 0, -1, -1], *[TIME] * 15)])

    def test_clock_beyond_sixteen_does_not_come_back(self):
        text = told("clock x", "clock y", "machine A", "place p y<=15", "edge p p when y>=15 x>=15 set y")
        self.assertEqual(asked(text, stuck()), [[-6]])


if __name__ == "__main__":
    unittest.main()
