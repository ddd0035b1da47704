"""Schedules: which sums are kept how long, and whether that keeps what was promised."""

from surelyseen.telling import check_sums, told_by, told_places


def kept_at(world, schedule, now):
    """The sums whose windows have ended at a time and are not too old for one of the rules."""
    _check_schedule(world, schedule)
    found = {}
    for who, level, age in schedule:
        size = world.sizes[level]
        for index in range(world.ticks // size):
            if 0 <= now - (index + 1) * size <= age:
                found[(who, level, index)] = True
    return _in_order(world, found)


def first_lost(world, schedule, promises):
    """The first time at which a sum cannot be kept ("unmade") or a promise is not kept ("lost"), or None."""
    _check_schedule(world, schedule)
    _check_schedule(world, promises)
    kept = []
    for now in range(1, world.ticks + 1):
        at_hand = kept + [(name, 0, now - 1) for name, _, _ in world.streams]
        kept = kept_at(world, schedule, now)
        lost = _first_not_told(world, at_hand, kept)
        if lost is not None:
            return ("unmade", now, lost) + told_by(world, at_hand, lost)[1:]
        lost = _first_not_told(world, kept, kept_at(world, promises, now))
        if lost is not None:
            return ("lost", now, lost) + told_by(world, kept, lost)[1:]
    return None


def _check_schedule(world, schedule):
    """Raise NoSuchSum for the first rule about what has no sums at its level."""
    check_sums(world, [(who, level, 0) for who, level, _ in schedule])


def _in_order(world, named):
    return [asked for asked in world.order if asked in named]


def _first_not_told(world, kept, wanted):
    told = told_places(world, kept)
    for asked in wanted:
        if not told[world.places[asked]]:
            return asked
    return None
