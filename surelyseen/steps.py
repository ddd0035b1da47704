"""Steps along facts about heights, and what lists of steps are."""


def way_cost(facts, way):
    """The total cost of a list of steps that exist."""
    return sum([step_parts(facts, step)[2] for step in way])


def is_way(facts, a, b, way):
    """Whether a list of steps is a way from a to b."""
    points = _points_on(facts, a, way)
    return points is not None and points[-1] == b and len(set(points)) == len(points)


def is_low_ring(facts, steps):
    """Whether a list of steps is a low ring."""
    if not steps or not step_exists(facts, steps[0]):
        return False
    start = step_parts(facts, steps[0])[0]
    points = _points_on(facts, start, steps)
    if points is None or points[-1] != start or len(set(points)) != len(steps):
        return False
    return way_cost(facts, steps) < 0


def fits_facts(facts, heights):
    """Whether heights, one for each point, meet every fact."""
    for a, b, least, greatest in facts:
        rise = heights[b] - heights[a]
        if least is not None and rise < least:
            return False
        if greatest is not None and rise > greatest:
            return False
    return True


def step_exists(facts, step):
    """Whether there is such a fact, such a side, and a bound on it."""
    fact, side = step
    if not 0 <= fact < len(facts):
        return False
    _, _, least, greatest = facts[fact]
    return (side == "high" and greatest is not None) or (side == "low" and least is not None)


def step_parts(facts, step):
    """Where a step that exists starts and ends, and what it costs."""
    fact, side = step
    a, b, least, greatest = facts[fact]
    return (a, b, greatest) if side == "high" else (b, a, -least)


def all_steps(facts):
    """All steps that exist, each as a tuple (start, end, cost, step)."""
    found = []
    for fact in range(len(facts)):
        for step in ((fact, "high"), (fact, "low")):
            if step_exists(facts, step):
                found.append(step_parts(facts, step) + (step,))
    return found


def _points_on(facts, start, way):
    """The points that steps visit, the start included, or None if they do not follow each other."""
    points = [start]
    for step in way:
        if not step_exists(facts, step):
            return None
        begin, end, _ = step_parts(facts, step)
        if begin != points[-1]:
            return None
        points.append(end)
    return points
