"""What is sure of one sum: a run that fits or a clash, least and greatest values."""

from surelyseen.boxes import empty_sum
from surelyseen.errors import NoRun, OutOfRange
from surelyseen.nets import crossing
from surelyseen.pushing import Pushing
from surelyseen.world import cell_table, check_sum, sum_values
from surelyseen.worldnet import net_of


def fit(box):
    """("run", run) with a run that fits, or ("clash", balance) with a balance that shows a clash."""
    empty = empty_sum(box)
    if empty is not None:
        return ("clash", [(empty, 1), (empty, -1)])
    world = box.world
    lows = [[box.low_of((name, 0, tick)) for tick in range(world.ticks)] for name, _, _ in world.streams]
    pushing = _pushing(box, lows)
    nodes = pushing.settle()
    if nodes:
        return ("clash", _cut_balance(world, pushing.net, nodes, -1))
    return ("run", cell_table(world, pushing.now))


def fitting_run(box):
    """A run that fits, or NoRun."""
    word, found = fit(box)
    if word == "clash":
        raise NoRun(found)
    return found


def least(box, asked):
    """The least value of a sum, a run that reaches it, and a balance whose floor it is."""
    check_sum(box.world, asked)
    return lowered(box, fitting_run(box), asked)


def greatest(box, asked):
    """The greatest value of a sum, a run that reaches it, and a balance whose ceiling it is."""
    check_sum(box.world, asked)
    return raised(box, fitting_run(box), asked)


def run_with(box, asked, value):
    """A run that fits in which the sum has the value."""
    low, run, _ = least(box, asked)
    high, _, _ = raised(box, run, asked)
    if not low <= value <= high:
        raise OutOfRange(low, high)
    return fitting_run(box.narrowed(asked, least=value, greatest=value))


def lowered(box, run, asked):
    """What `least` returns, found from any run that fits."""
    return _pressed(box, run, asked, -1)


def raised(box, run, asked):
    """What `greatest` returns, found from any run that fits."""
    return _pressed(box, run, asked, 1)


def _pressed(box, run, asked, direction):
    """Move the asked arc's value up (1) or down (-1), by pushing around it through the rest of the net."""
    world = box.world
    pushing = _pushing(box, run)
    arc = world.places[asked]
    bound = pushing.highs[arc] if direction == 1 else pushing.lows[arc]
    wanted = abs(bound - pushing.now[arc])
    pushing.lows[arc] = pushing.highs[arc] = pushing.now[arc]
    tail, head = pushing.net.arcs[arc]
    start, end = (head, tail) if direction == 1 else (tail, head)
    pushing.extra[start] = wanted
    pushing.extra[end] = -wanted
    nodes = pushing.settle()
    pushing.now[arc] += direction * (wanted - pushing.extra[start])
    balance = [(asked, 1)]
    if nodes:
        balance = [
            (other, sign)
            for other, sign in _cut_balance(world, pushing.net, nodes, direction)
            if other != asked
        ]
    return (pushing.now[arc], cell_table(world, pushing.now), balance)


def _pushing(box, table):
    """The sums of a table, each brought into its interval, ready to be pushed."""
    lows = [row[1] for row in box]
    highs = [row[2] for row in box]
    values = sum_values(box.world, table)
    values = [min(max(value, low), high) for value, low, high in zip(values, lows, highs)]
    return Pushing(net_of(box.world), values, lows, highs)


def _cut_balance(world, net, nodes, sign):
    """What leaves a set of nodes times the sign, less what enters it times the sign."""
    return [(world.order[arc], direction * sign) for arc, direction in crossing(net, nodes)]
