"""Traces on several clocks (points 88 to 91)."""

import itertools
import unittest

from helpers import draws
from metering import check_low_ring
from surelyseen.errors import BadTrace, NoHeights
from surelyseen.traces import Trace, before, lead, offsets, sure_order, trace_facts

DOC_CLOCKS = [("x", 2), ("y", 3)]


def events_of(trace):
    return [(span[0], side) for span in trace.spans for side in ("start", "end")]


def own_gap(trace, span, parent):
    return 0 if span[2] == parent[2] else trace.hop


def own_pairs(trace):
    """Pairs of events and the least time from the first to the second, by the words of point 89."""
    by_name = {span[0]: span for span in trace.spans}
    found = [((span[0], "start"), (span[0], "end"), 0) for span in trace.spans]
    for span in trace.spans:
        if span[1] is not None:
            gap = own_gap(trace, span, by_name[span[1]])
            found += [((span[1], "start"), (span[0], "start"), gap), ((span[0], "end"), (span[1], "end"), gap)]
    return found


def greatest_rises(trace):
    """For each pair of a clock's offset, the true zero or an event the greatest difference, None without a bound.

    Each event is a point of its own here, tied to its clock by what it shows. None at all if nothing fits.
    """
    points = ["zero"] + [clock[0] for clock in trace.clocks] + events_of(trace)
    rises = {(a, b): 0 if a == b else None for a in points for b in points}

    def bound(a, b, most):
        rises[(a, b)] = most if rises[(a, b)] is None else min(most, rises[(a, b)])

    for name, error in trace.clocks:
        bound("zero", name, error)
        bound(name, "zero", error)
    for name, _, clock, start, end in trace.spans:
        for side, shown in (("start", start), ("end", end)):
            if shown is not None:
                bound(clock, (name, side), shown)
                bound((name, side), clock, -shown)
    for first, second, least in own_pairs(trace):
        bound(second, first, -least)
    for mid, a, b in itertools.product(points, repeat=3):
        if rises[(a, mid)] is not None and rises[(mid, b)] is not None:
            bound(a, b, rises[(a, mid)] + rises[(mid, b)])
    return None if any(rises[(a, a)] < 0 for a in points) else rises


def listed_leads(trace, reach):
    """All that really may have happened, the times of lost events being from -reach to reach: lists of true times."""
    lost = [(span[0], side) for span in trace.spans if span[3] is None for side in ("start", "end")]
    found = []
    for chosen in itertools.product(*[range(-error, error + 1) for _, error in trace.clocks], *[range(-reach, reach + 1)] * len(lost)):
        offset = dict(zip([clock[0] for clock in trace.clocks], chosen))
        times = dict(zip(lost, chosen[len(offset):]))
        for name, _, clock, start, end in trace.spans:
            if start is not None:
                times[(name, "start")] = start + offset[clock]
                times[(name, "end")] = end + offset[clock]
        if all(times[second] - times[first] >= least for first, second, least in own_pairs(trace)):
            found.append((offset, times))
    return found


def drawn_trace(draw, clocks, spans, error, times, hop, lost=0.2):
    """A trace whose shown times come from a hidden happening, now and then with a mistake."""
    names = [f"c{k}" for k in range(clocks)]
    errors = [draw.randint(0, error) for _ in names]
    offset = {name: draw.randint(-most, most) for name, most in zip(names, errors)}
    hidden, found = {}, []
    for k in range(spans):
        name, clock = f"s{k}", draw.choice(names)
        parent = draw.choice([None] + [span[0] for span in found]) if found else None
        low, high = hidden[parent][1:] if parent else (-times, times)
        gap = hop if parent and hidden[parent][0] != clock else 0
        if high - low < 2 * gap:
            parent, gap, low, high = None, 0, -times, times
        start, end = sorted(draw.choices(range(low + gap, high - gap + 1), k=2))
        hidden[name] = (clock, start, end)
        shown = (None, None) if draw.random() < lost else (start - offset[clock], end - offset[clock])
        if shown[0] is not None and draw.random() < 0.1:
            shown = (shown[0] - error, shown[1] + 2 * error + 1)
        found.append((name, parent, clock) + shown)
    try:
        return Trace(list(zip(names, errors)), found, hop=hop)
    except BadTrace:
        return drawn_trace(draw, clocks, spans, error, times, hop, lost)


class TraceTest(unittest.TestCase):
    def test_attributes(self):
        spans = [("a", None, "x", 3, 9), ("b", "a", "y", None, None)]
        trace = Trace(DOC_CLOCKS, spans, hop=4)
        self.assertEqual((trace.clocks, trace.spans, trace.hop), ((("x", 2), ("y", 3)), tuple(spans), 4))
        self.assertEqual((Trace([("x", 0)], []).hop, Trace([("x", 1000000)], []).spans), (0, ()))
        six = [(f"c{k}", k) for k in range(6)]
        self.assertEqual(len(Trace(six, [(f"s{k}", None, "c5", -k, 10 ** 10) for k in range(25)], hop=1000000).spans), 25)

    def test_wrong_traces(self):
        span = ("a", None, "x", 3, 9)
        for clocks, spans, hop in (
            ([], [], 0), ([(f"c{k}", 1) for k in range(7)], [], 0), ([("x", 1), ("x", 2)], [], 0), ([("row", 1)], [], 0), ([("X", 1)], [], 0), ([("", 1)], [], 0),
            ([("x", -1)], [], 0), ([("x", 1000001)], [], 0), ([("x", 1)], [], -1), ([("x", 1)], [], 1000001), ([("x", 1)], [span], -1),
            (DOC_CLOCKS, [("A", None, "x", 3, 9)], 0), (DOC_CLOCKS, [("all", None, "x", 3, 9)], 0), (DOC_CLOCKS, [span, span], 0), (DOC_CLOCKS, [span, ("a", "a", "y", None, None)], 0),
            (DOC_CLOCKS, [("a", None, "z", 3, 9)], 0), (DOC_CLOCKS, [("a", "b", "x", 3, 9), ("b", None, "x", 3, 9)], 0), (DOC_CLOCKS, [("a", "a", "x", 3, 9)], 0),
            (DOC_CLOCKS, [("a", "", "x", 3, 9)], 0), (DOC_CLOCKS, [("a", "x", "x", 3, 9)], 0), (DOC_CLOCKS, [("a", None, "x", 9, 8)], 0),
            (DOC_CLOCKS, [("a", None, "x", None, 9)], 0), (DOC_CLOCKS, [("a", None, "x", 3, None)], 0), (DOC_CLOCKS, [span, ("b", "a", "x", 2, 9)], 0),
            (DOC_CLOCKS, [span, ("b", "a", "x", 3, 10)], 0), (DOC_CLOCKS, [span, ("b", "a", "x", 10, 12)], 0), (DOC_CLOCKS, [span, ("b", "a", "x", 0, 1)], 5),
        ):
            with self.assertRaises(BadTrace):
                Trace(clocks, spans, hop=hop)

    def test_allowed_traces(self):
        span = ("a", None, "x", 3, 9)
        for spans in (
            [span, ("b", "a", "x", 3, 9)], [span, ("b", "a", "y", 0, 99)], [span, ("b", None, "x", 0, 99)], [("a", None, "x", None, None), ("b", "a", "x", 0, 99)],
            [span, ("b", "a", "x", None, None), ("c", "b", "x", 0, 99)], [("x", None, "x", 3, 3)], [span, ("b", "a", "x", 5, 5)],
        ):
            self.assertEqual(Trace(DOC_CLOCKS, spans, hop=1000000).spans, tuple(spans))

    def test_facts(self):
        trace = Trace([("x", 2), ("y", 3)], [
            ("a", None, "x", 10, 50), ("b", "a", "y", None, None), ("c", "b", "y", 20, 30), ("d", "a", "x", 12, 40), ("e", None, "x", None, None), ("f", "e", "x", None, None),
            ("g", "c", "y", 21, 30), ("h", "c", "x", 22, 29),
        ], hop=4)
        self.assertEqual(trace_facts(trace), [
            (0, 1, -2, 2), (0, 2, -3, 3),
            (3, 4, 0, None), (1, 3, 4 + 10, None), (4, 1, 4 - 50, None),
            (3, 2, 0 - 20, None), (2, 4, 30, None),
            (5, 6, 0, None),
            (7, 8, 0, None), (5, 7, 0, None), (8, 6, 0, None),
            (2, 1, 4 + 20 - 22, None), (1, 2, 4 + 29 - 30, None),
        ])
        self.assertEqual(trace_facts(Trace([("x", 0)], [])), [(0, 1, 0, 0)])


class LeadTest(unittest.TestCase):
    def check(self, trace):
        """Every answer against the greatest rises; whether anything fits."""
        rises = greatest_rises(trace)
        events = events_of(trace)
        if rises is None:
            for call in (sure_order, offsets, lambda one: lead(one, events[0], events[-1]), lambda one: before(one, events[0], events[0])):
                with self.assertRaises(NoHeights) as caught:
                    call(trace)
                check_low_ring(self, trace_facts(trace), caught.exception.ring)
            return False
        sure = []
        for first in events:
            for second in events:
                greatest = rises[(first, second)]
                least = None if rises[(second, first)] is None else -rises[(second, first)]
                self.assertEqual(lead(trace, first, second), (least, greatest))
                word = "yes" if least is not None and least > 0 else "no" if greatest is not None and greatest <= 0 else "open"
                self.assertEqual(before(trace, first, second), word)
                if word == "yes":
                    sure.append((first, second))
        self.assertEqual(sure_order(trace), sure)
        self.assertEqual(offsets(trace), [(-rises[(name, "zero")], rises[("zero", name)]) for name, _ in trace.clocks])
        return True

    def test_against_cheapest_costs(self):
        draw = draws(630)
        marks = []
        for _ in range(80):
            marks.append(self.check(drawn_trace(draw, draw.randint(1, 4), draw.randint(1, 6), draw.choice([0, 2, 9]), 30, draw.choice([0, 1, 5]))))
        self.assertGreater(marks.count(True), 20)
        self.assertGreater(marks.count(False), 3)

    def test_against_all_offsets_and_times(self):
        draw = draws(631)
        many = 0
        while many < 25:
            trace = drawn_trace(draw, draw.randint(1, 2), draw.randint(1, 4), 1, 3, draw.randint(0, 1), lost=0.2)
            if len([1 for span in trace.spans if span[3] is None]) > 1:
                continue
            many += 1
            near, far = listed_leads(trace, 8), listed_leads(trace, 10)
            self.assertEqual(bool(far), greatest_rises(trace) is not None)
            if not far:
                continue
            for first in events_of(trace):
                for second in events_of(trace):
                    spans = [[times[second] - times[first] for _, times in told] for told in (near, far)]
                    least = min(spans[1]) if min(spans[1]) == min(spans[0]) else None
                    greatest = max(spans[1]) if max(spans[1]) == max(spans[0]) else None
                    self.assertEqual(lead(trace, first, second), (least, greatest))
                    marks = {times[first] < times[second] for _, times in far}
                    self.assertEqual(before(trace, first, second), "open" if len(marks) == 2 else "yes" if True in marks else "no")
            ranges = [[offset[name] for offset, _ in far] for name, _ in trace.clocks]
            self.assertEqual(offsets(trace), [(min(row), max(row)) for row in ranges])

    def test_edges(self):
        trace = Trace([("x", 2), ("y", 3)], [("a", None, "x", 5, 5), ("b", None, "y", 5, 5), ("c", None, "y", None, None)])
        self.assertEqual(lead(trace, ("a", "start"), ("a", "end")), (0, 0))
        self.assertEqual(before(trace, ("a", "start"), ("a", "end")), "no")
        self.assertEqual(lead(trace, ("a", "end"), ("b", "start")), (-5, 5))
        self.assertEqual(before(trace, ("a", "end"), ("b", "start")), "open")
        self.assertEqual(lead(trace, ("c", "start"), ("c", "end")), (0, None))
        self.assertEqual(lead(trace, ("c", "end"), ("c", "start")), (None, 0))
        self.assertEqual((before(trace, ("c", "start"), ("c", "end")), before(trace, ("c", "end"), ("c", "start"))), ("open", "no"))
        self.assertEqual(lead(trace, ("a", "start"), ("c", "start")), (None, None))
        self.assertEqual(before(trace, ("c", "start"), ("c", "start")), "no")
        self.assertEqual(sure_order(trace), [])
        self.assertEqual(offsets(trace), [(-2, 2), (-3, 3)])
        self.assertEqual((sure_order(Trace([("x", 0)], [])), offsets(Trace([("x", 7)], []))), ([], [(-7, 7)]))
        apart = Trace([("x", 2), ("y", 3)], [("a", None, "x", 0, 1), ("b", None, "y", 6, 7)])
        self.assertEqual(sure_order(apart), [
            (("a", "start"), ("a", "end")), (("a", "start"), ("b", "start")), (("a", "start"), ("b", "end")), (("a", "end"), ("b", "end")), (("b", "start"), ("b", "end")),
        ])

    def test_the_hop(self):
        """A child on another clock tells something of the offsets, the more so the longer the hop takes."""
        for hop in (0, 1, 2):
            trace = Trace([("x", 9), ("y", 9)], [("a", None, "x", 0, 10), ("b", "a", "y", 2, 8)], hop=hop)
            self.assertTrue(self.check(trace))
            self.assertEqual(lead(trace, ("a", "start"), ("b", "start")), (hop, 4 - hop))
        with self.assertRaises(NoHeights):
            offsets(Trace([("x", 9), ("y", 9)], [("a", None, "x", 0, 10), ("b", "a", "y", 2, 8)], hop=3))
        same = Trace([("x", 9)], [("a", None, "x", 0, 10), ("b", "a", "x", None, None)], hop=1000000)
        self.assertEqual(lead(same, ("b", "start"), ("b", "end")), (0, 10))

    def test_large(self):
        draw = draws(632)
        marks = []
        for error, times, hop in ((1000000, 10 ** 10, 1000000), (1000000, 10 ** 7, 100), (1000, 10 ** 10, 0)):
            trace = drawn_trace(draw, 6, 20, error, times, hop, lost=0.3)
            marks.append(self.check(trace))
        self.assertIn(True, marks)

    def test_events_that_do_not_exist(self):
        fine = Trace(DOC_CLOCKS, [("a", None, "x", 3, 9)])
        wrong = Trace([("x", 0), ("y", 0)], [("a", None, "x", 3, 9), ("b", "a", "y", 1, 2)])
        for trace in (fine, wrong):
            for first, second in (
                (("z", "start"), ("a", "end")), (("a", "start"), ("z", "end")), (("a", "middle"), ("a", "end")), (("a", "start"), ("a", "")), (("x", "start"), ("x", "end")),
            ):
                for call in (lead, before):
                    with self.assertRaises(BadTrace):
                        call(trace, first, second)
        for call in (lead, before):
            with self.assertRaises(NoHeights):
                call(wrong, ("a", "start"), ("a", "start"))

    def test_lists_may_change_afterwards(self):
        clocks, spans = list(DOC_CLOCKS), [("a", None, "x", 3, 9)]
        trace = Trace(clocks, spans)
        clocks.clear()
        spans.append(("b", None, "x", 1, 2))
        self.assertEqual((len(trace.clocks), len(trace.spans)), (2, 1))
        for call in (trace_facts, sure_order, offsets):
            kept = list(call(trace))
            call(trace).clear()
            self.assertEqual(call(trace), kept)


if __name__ == "__main__":
    unittest.main()
