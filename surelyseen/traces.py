"""Traces: trees of spans whose times are shown by different clocks."""

from surelyseen.errors import BadTrace
from surelyseen.heights import cheapest_costs
from surelyseen.names import is_name

MOST_CLOCKS = 6
MOST_ERROR = 1000000
MOST_HOP = 1000000
SIDES = ("start", "end")


class Trace:
    """A trace; beside what it was made from it holds where its events stand among the heights.

    points: the number of points.
    events: for each pair (span, side) the pair of its point and of what is added to its height to give the true time.
    """

    def __init__(self, clocks, spans, *, hop=0):
        self.clocks = tuple([(name, error) for name, error in clocks])
        self.spans = tuple([tuple(span) for span in spans])
        self.hop = hop
        _check_clocks(self.clocks)
        _check_spans(self.clocks, self.spans)
        if not 0 <= hop <= MOST_HOP:
            raise BadTrace("the hop is from 0 to 1000000")
        self.points = 1 + len(self.clocks)
        self.events = {}
        numbers = {name: number + 1 for number, (name, _) in enumerate(self.clocks)}
        for name, _, clock, start, end in self.spans:
            for side, shown in zip(SIDES, (start, end)):
                if shown is None:
                    self.events[(name, side)] = (self.points, 0)
                    self.points += 1
                else:
                    self.events[(name, side)] = (numbers[clock], shown)


def trace_facts(trace):
    """Facts about heights that say the same as the trace."""
    found = [(0, number + 1, -error, error) for number, (_, error) in enumerate(trace.clocks)]
    clock_of = {span[0]: span[2] for span in trace.spans}
    for name, parent, clock, start, _ in trace.spans:
        if start is None:
            found.extend(_later(trace, (name, "start"), (name, "end"), 0))
        if parent is not None:
            gap = 0 if clock == clock_of[parent] else trace.hop
            found.extend(_later(trace, (parent, "start"), (name, "start"), gap))
            found.extend(_later(trace, (name, "end"), (parent, "end"), gap))
    return found


def lead(trace, first, second):
    """The least and the greatest time from the first event to the second, None where there is no bound."""
    for event in (first, second):
        if event not in trace.events:
            raise BadTrace("the trace does not have the event")
    least = _most_lead(trace, second)[first]
    return (None if least is None else -least, _most_lead(trace, first)[second])


def before(trace, first, second):
    """Whether the first event is truly earlier than the second: "yes", "no" or "open"."""
    least, greatest = lead(trace, first, second)
    if least is not None and least > 0:
        return "yes"
    return "no" if greatest is not None and greatest <= 0 else "open"


def sure_order(trace):
    """All pairs of events of which the first is surely earlier than the second."""
    leads = {event: _most_lead(trace, event) for event in trace.events}
    return [
        (first, second) for first in trace.events for second in trace.events
        if leads[second][first] is not None and leads[second][first] < 0
    ]


def offsets(trace):
    """The pairs (least, greatest) of the clocks' offsets."""
    found = []
    for number in range(1, len(trace.clocks) + 1):
        up = cheapest_costs(trace.points, trace_facts(trace), 0)[number]
        down = cheapest_costs(trace.points, trace_facts(trace), number)[0]
        found.append((-down, up))
    return found


def _most_lead(trace, event):
    """For each event the greatest time from this event to it, or None."""
    point, shift = trace.events[event]
    costs = cheapest_costs(trace.points, trace_facts(trace), point)
    found = {}
    for other, (end, end_shift) in trace.events.items():
        found[other] = None if costs[end] is None else costs[end] + end_shift - shift
    return found


def _later(trace, earlier, later, gap):
    """The list of the fact that one event is later than another by a gap at least; empty if one clock shows both."""
    p, sp = trace.events[earlier]
    q, sq = trace.events[later]
    return [] if p == q else [(p, q, gap + sp - sq, None)]


def _check_clocks(clocks):
    if not 1 <= len(clocks) <= MOST_CLOCKS:
        raise BadTrace("a trace has 1 to 6 clocks")
    for name, error in clocks:
        if not is_name(name) or not 0 <= error <= MOST_ERROR:
            raise BadTrace("a clock has a name and an error from 0 to 1000000")
    if len(set([name for name, _ in clocks])) != len(clocks):
        raise BadTrace("the names of the clocks are different")


def _check_spans(clocks, spans):
    names = [name for name, _ in clocks]
    earlier = {}
    for span in spans:
        name, parent, clock, start, end = span
        if not is_name(name) or name in earlier:
            raise BadTrace("the spans have names, different ones")
        if clock not in names or (parent is not None and parent not in earlier):
            raise BadTrace("a span has a clock, and no parent or one that stands earlier")
        if (start is None) != (end is None) or (start is not None and start > end):
            raise BadTrace("a span does not end before it starts, or both were lost")
        if parent is not None and not _lies_within(span, earlier[parent]):
            raise BadTrace("a span lies within its parent if one clock shows both")
        earlier[name] = span


def _lies_within(span, parent):
    """Whether a span lies within its parent, as far as one clock shows both."""
    _, _, clock, start, end = span
    _, _, parent_clock, parent_start, parent_end = parent
    if clock != parent_clock or start is None or parent_start is None:
        return True
    return parent_start <= start and end <= parent_end
