"""Promise 3, and "What may be"."""

import unittest

from tests.helper import TIME, asked, least, steps, stuck, told, way

LAMP = told("clock x", "signal press", "machine Lamp", "place off", "place low", "place bright",
            "edge off low set x take press", "edge low bright when x<=3 take press",
            "edge low off when x>=4 take press", "edge bright off take press",
            "machine Hand", "place idle", "edge idle idle give press")


def ways(text, *asks):
    return asked(text, *[way(words) for words in asks])


class Ways(unittest.TestCase):
    def test_no_steps(self):
        self.assertEqual(ways(LAMP, "Lamp.off", "Lamp.off Hand.idle", ""), [[0]] * 3)

    def test_time(self):
        text = told("clock x", "machine A", "place p", "place q x>=2", "edge p q")
        self.assertEqual(ways(text, "A.q"), [steps(TIME, TIME, [0, 0, -1, -1])])

    def test_edges_alone(self):
        text = told("machine A", "place p", "place q", "place r", "edge q r", "edge p q")
        self.assertEqual(ways(text, "A.r"), [steps([0, 1, -1, -1], [0, 0, -1, -1])])

    def test_two_that_meet(self):
        self.assertEqual(ways(LAMP, "Lamp.bright"), [steps([1, 0, 0, 0], [1, 0, 0, 1])])

    def test_all_of_these(self):
        text = told("clock x", "signal s", "machine A", "place p", "place q", "edge p q when x>=1 give s",
                    "machine B", "place p", "place q", "place r", "edge p q take s", "edge q r")
        self.assertEqual(ways(text, "B.r"), [steps(TIME, [0, 0, 1, 0], [1, 1, -1, -1])])

    def test_cannot_be_come_to(self):
        text = told("clock x", "machine A", "place p x<=3", "place q", "place r", "edge p q when x>=4", "edge q r",
                    "edge r p")
        self.assertEqual(ways(text, "A.q", "A.r", "A.p A.q"), [[-6]] * 3)

    def test_back_to_where_it_was(self):
        text = told("clock x", "machine A", "place p", "place q", "edge p q when x>=1 set x", "edge q p")
        self.assertEqual(ways(text, "A.p", "A.q"), [[0], steps(TIME, [0, 0, -1, -1])])

    def test_as_long_as_most_and_longer(self):
        text = told("clock x", "machine A", "place p", "place q", "edge p q when x>=2")
        found = steps(TIME, TIME, [0, 0, -1, -1])
        self.assertEqual(asked(text, way("A.q", 3), way("A.q", 2), way("A.q", 0), way("A.p", 0)),
                         [found, [-4], [-4], [0]])

    def test_cannot_be_come_to_is_looked_at_before_most(self):
        text = told("machine A", "place p", "place q")
        self.assertEqual(asked(text, way("A.q", 0)), [[-6]])


class Start(unittest.TestCase):
    def test_bounds_that_do_not_hold(self):
        for lines in (("clock x", "machine A", "place p x>=1"), ("clock x", "clock y", "machine A", "place p x>=0 y>=1"),
                      ("clock x", "machine B", "place p", "machine A", "place p x>=1", "edge p p")):
            self.assertEqual(asked(told(*lines), way(""), way("A.p", 0), least(""), least("A.p"), stuck(), stuck(0)),
                             [[-6]] * 6)

    def test_bounds_that_hold(self):
        text = told("clock x", "machine A", "place p x<=0 x>=0")
        self.assertEqual(ways(text, "", "A.p"), [[0], [0]])

    def test_bounds_of_later_places_do_not_matter(self):
        self.assertEqual(ways(told("clock x", "machine A", "place p", "place q x>=1"), ""), [[0]])


class Order(unittest.TestCase):
    def test_first_edge_of_two(self):
        text = told("machine A", "place p", "place q", "edge p q", "edge p q")
        self.assertEqual(ways(text, "A.q"), [steps([0, 0, -1, -1])])

    def test_first_machine_first(self):
        text = told("machine A", "place p", "place q", "edge p q", "machine B", "place p", "place q", "edge p q")
        self.assertEqual(ways(text, "A.q B.q"), [steps([0, 0, -1, -1], [1, 0, -1, -1])])

    def test_time_ahead_of_edges(self):
        text = told("clock x", "machine A", "place p", "place q", "place r", "edge p q", "edge q r when x>=1")
        self.assertEqual(ways(text, "A.r"), [steps(TIME, [0, 0, -1, -1], [0, 1, -1, -1])])

    def test_edges_alone_ahead_of_those_that_meet(self):
        text = told("signal s", "machine A", "place p", "place q", "edge p q give s", "machine B", "place p",
                    "edge p p take s", "machine C", "place p", "place q", "edge p q")
        self.assertEqual(ways(text, "A.q C.q"), [steps([2, 0, -1, -1], [0, 0, 1, 0])])
        same = told("signal s", "machine A", "place p", "place q", "edge p q give s", "edge p q", "machine B",
                    "place p", "edge p p take s")
        self.assertEqual(ways(same, "A.q"), [steps([0, 1, -1, -1])])

    def test_giving_edges_then_taking_ones(self):
        # Each edge gives or takes; all end alike, so the first of them is kept.
        text = told("signal s", "machine A", "place p", "place q", "edge p q take s", "edge p q give s",
                    "machine B", "place p", "place q", "edge p q give s", "edge p q take s", "edge p q take s")
        self.assertEqual(ways(text, "A.q"), [steps([0, 1, 1, 1])])

    def test_givers_by_machine_ahead_of_takers(self):
        text = told("signal s", "machine A", "place p", "place q", "edge p q take s", "machine B", "place p",
                    "edge p p give s", "edge p p give s", "machine C", "place p", "edge p p give s")
        self.assertEqual(ways(text, "A.q"), [steps([1, 0, 0, 0])])

    def test_takers_by_machine(self):
        text = told("signal s", "machine A", "place p", "edge p p take s", "machine B", "place p", "place q",
                    "edge p q give s", "machine C", "place p", "place q", "edge p q take s")
        self.assertEqual(ways(text, "B.q", "C.q"), [steps([1, 0, 0, 0]), steps([1, 0, 2, 0])])

    def test_first_found_of_those_asked_for(self):
        text = told("machine A", "place p", "place q", "edge p q", "machine B", "place p", "place q", "edge p q",
                    "machine C", "place p", "place q", "edge p p", "edge p q")
        self.assertEqual(ways(text, "B.q", "C.q", "C.q A.q"),
                         [steps([1, 0, -1, -1]), steps([2, 1, -1, -1]), steps([0, 0, -1, -1], [2, 1, -1, -1])])

    def test_state_keeps_the_way_found_first(self):
        # r is found by q1 and by q2; q2's edge is the earlier one, but q1 was found first.
        text = told("machine A", "place p", "place q1", "place q2", "place r", "edge q2 r", "edge p q1", "edge p q2",
                    "edge q1 r")
        self.assertEqual(ways(text, "A.r"), [steps([0, 1, -1, -1], [0, 3, -1, -1])])


class Bounds(unittest.TestCase):
    def units_till(self, *lines):
        return ways(told("clock x", "machine A", *lines), "A.q")[0]

    def test_at_least(self):
        for number in (0, 1, 15):
            found = steps(*[TIME] * number, [0, 0, -1, -1])
            self.assertEqual(self.units_till("place p", "place q", f"edge p q when x>={number}"), found)
            self.assertEqual(self.units_till("place p", f"place q x>={number}", "edge p q"), found)

    def test_at_most_where_it_waits(self):
        for number in (0, 1, 14):
            self.assertEqual(self.units_till(f"place p x<={number}", "place q", f"edge p q when x>={number}"),
                             steps(*[TIME] * number, [0, 0, -1, -1]))
            self.assertEqual(self.units_till(f"place p x<={number}", "place q", f"edge p q when x>={number + 1}"), [-6])

    def test_at_most_of_an_edge(self):
        two = ("place p", "place r", "place q", "edge p r when x>=4")
        self.assertEqual(self.units_till(*two, "edge r q when x<=3"), [-6])
        self.assertEqual(self.units_till(*two, "edge r q when x<=4"),
                         steps(*[TIME] * 4, [0, 0, -1, -1], [0, 1, -1, -1]))

    def test_all_of_several_hold(self):
        self.assertEqual(self.units_till("place p", "place q", "edge p q when x>=3 x>=2 x<=4 x<=9"),
                         steps(TIME, TIME, TIME, [0, 0, -1, -1]))
        self.assertEqual(self.units_till("place p", "place q", "edge p q when x>=3 x<=2"), [-6])

    def test_edge_is_bound_before_clocks_are_set(self):
        self.assertEqual(self.units_till("place p", "place q", "edge p q when x>=1 set x"),
                         steps(TIME, [0, 0, -1, -1]))
        self.assertEqual(self.units_till("place p x<=0", "place q", "edge p q when x>=1 set x"), [-6])

    def test_place_is_bound_after_clocks_are_set(self):
        self.assertEqual(self.units_till("place p", "place q x<=0", "edge p q when x>=1"), [-6])
        self.assertEqual(self.units_till("place p", "place q x<=0", "edge p q when x>=1 set x"),
                         steps(TIME, [0, 0, -1, -1]))
        self.assertEqual(self.units_till("place p", "place q x>=1", "edge p q set x"), [-6])

    def test_other_clocks_are_not_set(self):
        text = told("clock x", "clock y", "machine A", "place p", "place q", "place r",
                    "edge p q when x>=2 set y", "edge q r when x>=3 y>=1 y<=1")
        self.assertEqual(ways(text, "A.r"),
                         [steps(TIME, TIME, [0, 0, -1, -1], TIME, [0, 1, -1, -1])])

    def test_bounds_where_other_machines_are(self):
        # B stays where x is at least 1, so A can't set x back before B is gone.
        text = told("clock x", "machine A", "place p", "place q", "edge p q when x>=1 set x",
                    "machine B", "place o", "place p x>=1", "place q", "edge o p", "edge p q")
        self.assertEqual(ways(text, "B.p A.q"),
                         [steps(TIME, [0, 0, -1, -1], TIME, [1, 0, -1, -1])])

    def test_time_waits_for_every_machine(self):
        text = told("clock x", "machine A", "place p", "place q", "edge p q when x>=3",
                    "machine B", "place p x<=2", "place q", "edge p q")
        self.assertEqual(ways(text, "A.q"), [steps(TIME, TIME, [1, 0, -1, -1], TIME, [0, 0, -1, -1])])

    def test_all_clocks_go_together(self):
        text = told("clock x", "clock y", "clock z", "clock w", "machine A", "place p", "place q",
                    "edge p q when x>=2 y>=2 z>=2 w>=2 x<=2 y<=2 z<=2 w<=2")
        self.assertEqual(ways(text, "A.q"), [steps(TIME, TIME, [0, 0, -1, -1])])


class Meetings(unittest.TestCase):
    def test_nobody_to_meet(self):
        text = told("signal s", "signal t", "machine A", "place p", "place q", "place r", "edge p q give s",
                    "edge p r take t", "machine B", "place p", "place q", "edge p q take t", "edge p q give s")
        self.assertEqual(ways(text, "A.q", "A.r", "B.q"), [[-6]] * 3)

    def test_not_with_itself(self):
        text = told("signal s", "machine A", "place p", "place q", "edge p q give s", "edge p q take s")
        self.assertEqual(ways(text, "A.q"), [[-6]])

    def test_the_other_must_be_there(self):
        text = told("signal s", "machine A", "place p", "place q", "edge p q give s",
                    "machine B", "place o", "place p", "edge p o take s", "edge o p")
        self.assertEqual(ways(text, "A.q"), [steps([1, 1, -1, -1], [0, 0, 1, 0])])

    def test_bounds_of_both(self):
        for giving, taking in ((" when x>=2", ""), ("", " when x>=2"), (" when x>=1", " when x>=2")):
            text = told("clock x", "signal s", "machine A", "place p", "place q", "edge p q" + giving + " give s",
                        "machine B", "place p", "place q", "edge p q" + taking + " take s")
            self.assertEqual(ways(text, "A.q"), [steps(TIME, TIME, [0, 0, 1, 0])])
        never = told("clock x", "signal s", "machine A", "place p", "place q", "edge p q when x<=1 give s",
                     "machine B", "place p", "place q", "edge p q when x>=2 take s")
        self.assertEqual(ways(never, "A.q"), [[-6]])

    def test_clocks_of_both_are_set_at_once(self):
        # Neither sees what the other sets: both bounds hold before, both places' bounds behind.
        text = told("clock x", "clock y", "signal s", "machine A", "place p", "place q x<=0",
                    "edge p q when x>=1 y>=1 set y give s",
                    "machine B", "place p", "place q y<=0", "edge p q when x>=1 y>=1 set x take s")
        self.assertEqual(ways(text, "A.q"), [steps(TIME, [0, 0, 1, 0])])
        self.assertEqual(ways(text, "A.q B.q", "A.q B.p"), [steps(TIME, [0, 0, 1, 0]), [-6]])

    def test_bounds_of_places_come_to(self):
        for giver, taker in ((" x>=2", ""), ("", " x>=2")):
            text = told("clock x", "signal s", "machine A", "place p", "place q" + giver, "edge p q give s",
                        "machine B", "place p", "place q" + taker, "edge p q take s")
            self.assertEqual(ways(text, "A.q"), [steps(TIME, TIME, [0, 0, 1, 0])])

    def test_bounds_of_a_third_machine(self):
        text = told("clock x", "signal s", "machine A", "place p", "place q", "edge p q set x give s",
                    "machine B", "place p", "place q", "edge p q take s",
                    "machine C", "place o", "place p x>=1", "edge o p")
        self.assertEqual(ways(text, "A.q C.p"), [steps([0, 0, 1, 0], TIME, [2, 0, -1, -1])])


class Beyond(unittest.TestCase):
    def test_sixteen_is_the_end(self):
        # x is far beyond 15 when y has gone to 15 a second time: it neither comes back nor goes wrong.
        text = told("clock x", "clock y", "machine A", "place p", "place q", "place r", "place no",
                    "edge p q when y>=15 set y", "edge q r when y>=15 x>=15", "edge q no when y>=15 x<=15")
        self.assertEqual(ways(text, "A.r", "A.no"),
                         [steps(*[TIME] * 15, [0, 0, -1, -1], *[TIME] * 15, [0, 1, -1, -1]), [-6]])

    def test_clock_set_behind_the_end(self):
        text = told("clock x", "clock y", "machine A", "place p", "place q", "place r",
                    "edge p q when y>=15 set y", "edge q r when y>=15 set x", "place s", "edge r s when x<=1 y>=15 x>=1")
        self.assertEqual(ways(text, "A.s"),
                         [steps(*[TIME] * 15, [0, 0, -1, -1], *[TIME] * 15, [0, 1, -1, -1], TIME, [0, 2, -1, -1])])

    def test_number_of_states_of_one_clock(self):
        # 17 for each place, and no more: twelve of such are few, whatever time goes by.
        text = told("clock x", "machine A", *["place p" + str(n) for n in range(8)],
                    *[f"edge p{n} p{n + 1} when x>=15" for n in range(7)])
        self.assertEqual(ways(text, "A.p7"), [steps(*[TIME] * 15, *[[0, n, -1, -1] for n in range(7)])])

    def test_fifteen_is_not_sixteen(self):
        text = told("clock x", "machine A", "place p x<=15", "place q", "place r", "edge p q when x>=15",
                    "edge q r when x<=15")
        self.assertEqual(ways(text, "A.r"), [steps(*[TIME] * 15, [0, 0, -1, -1], [0, 1, -1, -1])])


if __name__ == "__main__":
    unittest.main()
