"""Since when: at which windows a row can be completed first."""

from surelyseen.boxes import narrowed_by
from surelyseen.cases import cases
from surelyseen.flows import fit, fitting_run
from surelyseen.questions import check_question


def firsts(box, length, who, level, start, stop, sign, number):
    """Pairs (at, run) for each window at which the row can be completed first; (None, run) if it may never be."""
    row = ("row", length, who, level, start, stop, sign, number)
    check_question(box.world, row)
    ways = []
    for at in range(start, stop + 1):
        ways.append((at, cases(box.world, ("first",) + row[1:] + (at,), holding=True)))
    ways.append((None, cases(box.world, row, holding=False)))
    fitting_run(box)
    found = []
    for at, choices in ways:
        run = _run_of_any(box, choices)
        if run is not None:
            found.append((at, run))
    return found


def _run_of_any(box, choices):
    """A run that fits the box and one of some cases, or None."""
    for demands in choices:
        word, run = fit(narrowed_by(box, demands))
        if word == "run":
            return run
    return None
