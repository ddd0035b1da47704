"""What is sure of a weighted sum."""

from surelyseen.balances import balance_value, ceiling_of, cell_weights, check_balance, floor_of, negative
from surelyseen.boxes import fits_box
from surelyseen.costs import cheapest
from surelyseen.flows import fitting_run
from surelyseen.world import cell_table, check_sum, sum_values
from surelyseen.worldnet import net_of


def lightest(box, weights):
    """The least value of the weights, a run that reaches it, and a balance whose floor it is."""
    check_balance(box.world, weights)
    return _lightest(box, weights)


def heaviest(box, weights):
    """The greatest value of the weights, a run that reaches it, and a balance whose ceiling it is."""
    check_balance(box.world, weights)
    value, run, balance = _lightest(box, negative(weights))
    return (-value, run, negative(balance))


def shows_least(box, weights, value, run, balance):
    """Whether the run fits and has the value, and the balance is worth the weights and has the value as its floor."""
    return _shows(box, weights, value, run, balance) and floor_of(box, balance) == value


def shows_greatest(box, weights, value, run, balance):
    """Whether the run fits and has the value, and the balance is worth the weights and has the value as its ceiling."""
    return _shows(box, weights, value, run, balance) and ceiling_of(box, balance) == value


def stretch(world, who, start, stop):
    """The weights that add up who at the ticks from start to stop."""
    found = []
    for tick in range(start, stop + 1):
        check_sum(world, (who, 0, tick))
        found.append(((who, 0, tick), 1))
    return found


def _lightest(box, weights):
    """The weights are what the arcs of the world's net cost; the shifted costs are a balance with the same values."""
    world = box.world
    costs = [0] * len(world.order)
    for asked, coefficient in weights:
        costs[world.places[asked]] += coefficient
    values = sum_values(world, fitting_run(box))
    lows = [row[1] for row in box]
    highs = [row[2] for row in box]
    reached, shifted = cheapest(net_of(world), values, lows, highs, costs)
    run = cell_table(world, reached)
    balance = [(asked, cost) for asked, cost in zip(world.order, shifted) if cost != 0]
    return (balance_value(world, run, weights), run, balance)


def _shows(box, weights, value, run, balance):
    world = box.world
    check_balance(world, weights)
    check_balance(world, balance)
    if not fits_box(box, run) or balance_value(world, run, weights) != value:
        return False
    return cell_weights(world, balance) == cell_weights(world, weights)
