"""Balances: sums with coefficients, their cell weights, floors and ceilings."""

from surelyseen.world import check_sum, ticks_of


def check_balance(world, balance):
    """Raise NoSuchSum for the first sum of a balance that does not exist."""
    for asked, _ in balance:
        check_sum(world, asked)


def cell_weights(world, balance):
    """For each cell the total of the coefficients of the sums that contain it, as a table."""
    check_balance(world, balance)
    found = [[0] * world.ticks for _ in world.streams]
    for asked, coefficient in balance:
        for k in world.members[asked[0]]:
            for tick in ticks_of(world, asked):
                found[k][tick] += coefficient
    return found


def floor_of(box, balance):
    """The total that the intervals let the balance have at least."""
    check_balance(box.world, balance)
    return sum([
        coefficient * (box.low_of(asked) if coefficient > 0 else box.high_of(asked))
        for asked, coefficient in balance
    ])


def ceiling_of(box, balance):
    """The total that the intervals let the balance have at most."""
    return -floor_of(box, [(asked, -coefficient) for asked, coefficient in balance])


def is_clash(box, balance):
    """Whether a balance shows that no run fits the box."""
    weights = cell_weights(box.world, balance)
    if any([any(row) for row in weights]):
        return False
    return floor_of(box, balance) > 0
