"""Balances: sums with coefficients, their cell weights, floors and ceilings."""

from surelyseen.world import check_sum, sum_value, ticks_of


def check_balance(world, balance):
    """Raise NoSuchSum for the first sum of a balance that does not exist."""
    for asked, _ in balance:
        check_sum(world, asked)


def negative(balance):
    """The balance with every coefficient turned into its negative."""
    return [(asked, -coefficient) for asked, coefficient in balance]


def balance_value(world, table, balance):
    """The value of a balance in a table."""
    return sum([coefficient * sum_value(world, table, asked) for asked, coefficient in balance])


def cell_weights(world, balance):
    """For each cell the total of the coefficients of the sums that contain it, as a table."""
    check_balance(world, balance)
    found = [[0] * world.ticks for _ in world.streams]
    for asked, coefficient in balance:
        for k in world.members[asked[0]]:
            for tick in ticks_of(world, asked):
                found[k][tick] += coefficient
    return found


def floor_of(box, balance):
    """The total that the intervals let the balance have at least."""
    check_balance(box.world, balance)
    return sum([
        coefficient * (box.low_of(asked) if coefficient > 0 else box.high_of(asked))
        for asked, coefficient in balance
    ])


def ceiling_of(box, balance):
    """The total that the intervals let the balance have at most."""
    return -floor_of(box, negative(balance))


def is_clash(box, balance):
    """Whether a balance shows that no run fits the box."""
    weights = cell_weights(box.world, balance)
    if any([any(row) for row in weights]):
        return False
    return floor_of(box, balance) > 0
