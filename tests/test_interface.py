"""The whole interface: every name with its parameters, where the document lists it, and the general rules (point 3)."""

import copy
import importlib
import inspect
import unittest

from helpers import doc_world, own_sums
from surelyseen.boxes import Box
from surelyseen.causes import Causes
from surelyseen.desk import Desk
from surelyseen.lines import Line
from surelyseen.machines import Machine
from surelyseen.meters import Meter
from surelyseen.nets import Net
from surelyseen.rules import Rule
from surelyseen.setups import Setup
from surelyseen.traces import Trace
from surelyseen.world import World

FUNCTIONS = {
    "names": ["is_name(text)"],
    "world": [
        "sums(world)", "check_sum(world, asked)", "cells_of(world, asked)", "sum_range(world, asked)", "sum_value(world, table, asked)", "is_run(world, table)",
    ],
    "written": ["written_sum(asked)", "read_sum(text)"],
    "nets": ["balanced(net, values)", "moved(net, values, ring, amount)"],
    "rings": ["ring_or_cut(net, rises, falls, asked)", "is_ring(net, rises, falls, asked, ring)", "is_cut(net, rises, falls, asked, nodes)"],
    "worldnet": ["net_of(world)"],
    "steps": ["way_cost(facts, way)", "is_way(facts, a, b, way)", "is_low_ring(facts, steps)", "fits_facts(facts, heights)"],
    "heights": ["heights_or_ring(points, facts)", "difference(points, facts, a, b)", "cheapest_way(points, facts, a, b)"],
    "boxes": ["fits_box(box, table)"],
    "balances": ["cell_weights(world, balance)", "floor_of(box, balance)", "ceiling_of(box, balance)", "is_clash(box, balance)"],
    "flows": ["fit(box)", "least(box, asked)", "greatest(box, asked)", "run_with(box, asked, value)"],
    "peaks": ["peak(box, asked)", "trough(box, asked)", "run_with_peak(box, asked, value)", "run_with_trough(box, asked, value)"],
    "walks": ["walk(box, first, second)"],
    "prices": [
        "lightest(box, weights)", "heaviest(box, weights)", "shows_least(box, weights, value, run, balance)", "shows_greatest(box, weights, value, run, balance)",
        "stretch(world, who, start, stop)",
    ],
    "setups": ["check_item(setup, item)"],
    "items": ["written_item(item)", "read_item(line)"],
    "samples": [
        "kept(setup, who, number, stream)", "rows_between(setup, items, who, tick)", "missing_rows(setup, items, who, tick)", "sampled(setup, who, tick, forms)",
    ],
    "gathering": ["box_of(setup, items)", "reported(setup, stream, tick, events)"],
    "clashes": ["least_clash(setup, items)"],
    "journals": ["written_journal(items)", "read_journal(text)"],
    "questions": ["check_question(world, question)", "holds(world, table, question)"],
    "cases": ["cases(world, question, *, holding)", "case_count(world, question, *, holding)"],
    "answers": ["answer(box, question)", "shows(box, question, given)"],
    "firsts": ["firsts(box, length, who, level, start, stop, sign, number)"],
    "reading": ["read_question(text)", "written_question(question)"],
    "reasons": ["reasons(setup, items, question)"],
    "machines": ["known(machine, course)", "sure(machine, course)"],
    "rules": ["judge(machine, rule)", "closes(machine, rule, pairs)"],
    "knowing": ["knowledge(machine)", "parting(machine, first, second)", "least_rule(machine)", "state_courses(machine)"],
    "lines": ["line_machine(line)", "seen(line, counts, shown)", "course_items(line, stream, course)"],
    "incidents": [
        "incidents(firing, *, gap=0)", "possible_incidents(firing, *, gap=0)", "incident_range(firing, *, gap=0)", "joined(firing, first, last, *, gap=0)",
        "silenced(firing, silences)",
    ],
    "telling": [
        "told_by(world, kept, asked)", "shows_told(world, kept, asked, balance)", "shows_lost(world, kept, asked, run, other)", "told_sums(world, kept)",
    ],
    "lots": ["rank(world, promised)", "least_lots(world, promised)", "is_least_lot(world, promised, lot)", "cheapest_lot(world, promised, costs)"],
    "schedules": ["kept_at(world, schedule, now)", "first_lost(world, schedule, promises)"],
    "meters": ["readings_fit(meter, readings)", "meter_facts(meter)", "growth(meter, a, b)", "stream_meter(box, stream)"],
    "budgets": [
        "budget_states(meter, width, most)", "overspent(meter, width, most)", "settles(meter, width, most, points)", "least_reads(meter, width, most)",
    ],
    "spending": ["budget_state(box, who, width, most, point)"],
    "traces": ["trace_facts(trace)", "lead(trace, first, second)", "before(trace, first, second)", "sure_order(trace)", "offsets(trace)"],
    "causes": ["reach(causes, name)", "limits(causes, lot)", "fit_lot(box, causes, lot)"],
    "blame": ["least_faults(box, causes)", "conflicts(box, causes)", "blame(box, causes, name)"],
    "desk": ["replay(setup, deeds)"],
    "books": ["written_deed(deed)", "read_deed(line)", "written_book(deeds)", "read_book(text)"],
}
CLASSES = {
    ("world", "World"): ("(streams, *, ticks, folds, groups=())", ["__eq__"]),
    ("nets", "Net"): ("(nodes, arcs)", []),
    ("boxes", "Box"): ("(world)", ["low_of(asked)", "high_of(asked)", "narrowed(asked, *, least=None, greatest=None)", "__and__", "__eq__", "__iter__"]),
    ("setups", "Setup"): ("(world, *, cap=9, samples=())", ["__eq__"]),
    ("machines", "Machine"): ("(states, letters, starts, moves, matter)", []),
    ("rules", "Rule"): ("(moves, speaking)", ["after(course)", "speaks(course)", "__eq__"]),
    ("lines", "Line"): ("(high, *, limit=1, row=1, fold=0, late=False)", []),
    ("meters", "Meter"): ("(ticks, low, high, facts)", []),
    ("traces", "Trace"): ("(clocks, spans, *, hop=0)", []),
    ("causes", "Causes"): ("(world, normal, *, leans=(), faults=())", []),
    ("desk", "Desk"): ("(setup)", [
        "take(item)", "held()", "box()", "clash()", "ask(text)", "reasons(text)", "report(who, level)", "firing(who, level, sign, number)", "only_run()",
        "watch(name, text)", "alerts()", "promise(asked)", "promises()", "forget(kept)", "deeds()", "undo()", "twin()", "__eq__", "__contains__", "__len__", "__iter__",
    ]),
}


def everything():
    """One object of each class, with the attributes that the interface lists."""
    world = doc_world()
    return [
        (world, {"streams": (("ok", 0, 9), ("err", 0, 3), ("slow", 0, 3)), "ticks": 4, "folds": (2, 4), "groups": (("bad", ("err", "slow")),)}),
        (Net(2, [(0, 1)]), {"nodes": 2, "arcs": ((0, 1),)}),
        (Box(world), {"world": world}),
        (Setup(world, samples=[("bad", 3, 0, ["err"])]), {"world": world, "cap": 9, "samples": (("bad", 3, 0, ("err",)),)}),
        (Machine(1, 1, [0], [(0, 0, 0)], []), {"states": 1, "letters": 1, "starts": (0,), "moves": ((0, 0, 0),), "matter": ()}),
        (Rule([[0]], [0]), {"moves": ((0,),), "speaking": (0,), "letters": 1}),
        (Line(1), {"high": 1, "limit": 1, "row": 1, "fold": 0, "late": False, "triples": ((None, None, None), (0, None, None), (1, None, None))}),
        (Meter(1, 0, 2, [("read", 1, 1)]), {"ticks": 1, "low": 0, "high": 2, "facts": (("read", 1, 1),)}),
        (Trace([("x", 1)], [("a", None, "x", 0, 1)]), {"clocks": (("x", 1),), "spans": (("a", None, "x", 0, 1),), "hop": 0}),
        (
            Causes(world, [0, 0, 0], leans=[("ok", "err", 1)], faults=[("f", "ok", 0, 1, 1)]),
            {"world": world, "normal": (0, 0, 0), "leans": (("ok", "err", 1),), "faults": (("f", "ok", 0, 1, 1),)},
        ),
        (Desk(Setup(world)), {"setup": Setup(world)}),
    ]


def calls():
    """Calls of the functions that are passed lists: (module, name, arguments, keywords)."""
    world = doc_world()
    setup = Setup(world, samples=[("bad", 3, 0, [])])
    box = Box(world)
    net = Net(3, [(0, 1), (1, 2), (2, 0)])
    run = [[0] * 4, [0] * 4, [0] * 4]
    facts = [(0, 1, 0, 2), (1, 2, None, 3), (0, 2, 1, None)]
    balance = [(("ok", 0, 0), 1), (("all", 2, 0), -2)]
    items = [("close", "ok", 0, 1), ("count", "ok", 0, 0, 4), ("rows", "bad", 0, (0, 3))]
    question = ("some", "ok", 0, 0, 3, ">=", 4)
    machine = Machine(2, 2, [0], [(0, 0, 0), (0, 1, 1), (1, 0, 1)], [1])
    rule, line, meter = Rule([[0, 1], [1, 0]], [1]), Line(1, late=True), Meter(3, 0, 4, [("read", 3, 5)])
    trace = Trace([("x", 1), ("y", 2)], [("a", None, "x", 0, 9), ("b", "a", "y", 2, 7)])
    causes = Causes(world, [0, 0, 0], faults=[("f", "ok", 0, 1, 1)])
    kept = [("ok", 1, 0), ("ok", 0, 0), ("ok", 1, 0)]
    return [
        ("nets", "balanced", (net, [1, 1, 1])), ("nets", "moved", (net, [1, 1, 1], [(0, 1), (1, 1), (2, 1)], 2)),
        ("rings", "ring_or_cut", (net, [True] * 3, [False] * 3, 0)), ("rings", "is_ring", (net, [True] * 3, [False] * 3, 0, [(0, 1), (1, 1), (2, 1)])),
        ("rings", "is_cut", (net, [True] * 3, [False] * 3, 0, [1])), ("steps", "way_cost", (facts, [(0, "high")])), ("steps", "is_way", (facts, 0, 1, [(0, "high")])),
        ("steps", "is_low_ring", (facts, [(0, "high"), (0, "low")])), ("steps", "fits_facts", (facts, [0, 1, 2])), ("heights", "heights_or_ring", (3, facts)),
        ("heights", "difference", (3, facts, 0, 2)), ("heights", "cheapest_way", (3, facts, 0, 2)), ("world", "sum_value", (world, run, ("all", 2, 0))),
        ("world", "is_run", (world, run)), ("boxes", "fits_box", (box, run)), ("balances", "cell_weights", (world, balance)), ("balances", "floor_of", (box, balance)),
        ("balances", "ceiling_of", (box, balance)), ("balances", "is_clash", (box, balance)), ("peaks", "peak", (box, kept)), ("peaks", "trough", (box, kept)),
        ("peaks", "run_with_peak", (box, kept, 5)), ("peaks", "run_with_trough", (box, kept, 5)), ("walks", "walk", (box, run, [[1] * 4, [0] * 4, [2] * 4])),
        ("prices", "lightest", (box, balance)), ("prices", "heaviest", (box, balance)), ("prices", "shows_least", (box, balance, 0, run, balance)),
        ("prices", "shows_greatest", (box, balance, 0, run, balance)), ("samples", "rows_between", (setup, items, "bad", 0)), ("samples", "missing_rows", (setup, items, "bad", 0)),
        ("samples", "sampled", (setup, "bad", 0, ["err", "slow"])), ("gathering", "box_of", (setup, items)), ("gathering", "reported", (setup, "ok", 0, [3, 4])),
        ("clashes", "least_clash", (setup, items + [("close", "ok", 0, 0)])), ("journals", "written_journal", (items,)), ("questions", "holds", (world, run, question)),
        ("answers", "shows", (box, question, ("open", run, run))), ("reasons", "reasons", (setup, items, question)), ("machines", "known", (machine, [0, 1])),
        ("machines", "sure", (machine, [0, 1])), ("rules", "closes", (machine, rule, [(0, (0,)), (1, (1,))])), ("knowing", "parting", (machine, [0], [1])),
        ("lines", "seen", (line, [1, 0], [(True, True, True)] * 2)), ("lines", "course_items", (line, "ok", [3, 0])), ("incidents", "incidents", (["yes", "open"],)),
        ("incidents", "possible_incidents", (["yes", "open"],)), ("incidents", "incident_range", (["yes", "open"],)), ("incidents", "joined", (["yes", "open"], 0, 1)),
        ("incidents", "silenced", (["yes", "open"], [(0, 0)])), ("telling", "told_by", (world, kept, ("ok", 0, 1))), ("telling", "told_sums", (world, kept)),
        ("telling", "shows_told", (world, kept, ("ok", 0, 1), balance)), ("telling", "shows_lost", (world, kept, ("ok", 0, 1), run, run)), ("lots", "rank", (world, kept)),
        ("lots", "least_lots", (world, kept)), ("lots", "is_least_lot", (world, kept, kept[:2])), ("lots", "cheapest_lot", (world, kept, [1] * len(own_sums(world)))),
        ("schedules", "kept_at", (world, [("ok", 0, 1)], 2)), ("schedules", "first_lost", (world, [("ok", 0, 1)], [("ok", 1, 0)])), ("meters", "readings_fit", (meter, [0, 1, 4, 5])),
        ("budgets", "settles", (meter, 2, 3, [1, 2])), ("traces", "lead", (trace, ("a", "start"), ("b", "end"))), ("causes", "limits", (causes, ["f"])),
        ("causes", "fit_lot", (box, causes, ["f"])), ("desk", "replay", (setup, [("take", items[0]), ("forget", (("ok", 0, 0),))])),
        ("books", "written_book", ([("take", items[0]), ("forget", ())],)),
    ]


class InterfaceTest(unittest.TestCase):
    def test_functions(self):
        for name, listed in FUNCTIONS.items():
            module = importlib.import_module(f"surelyseen.{name}")
            for text in listed:
                word = text.split("(")[0]
                function = getattr(module, word)
                self.assertTrue(inspect.isfunction(function), text)
                self.assertEqual(function.__module__, module.__name__)
                self.assertEqual(word + str(inspect.signature(function)), text)

    def test_classes(self):
        for (name, word), (parameters, methods) in CLASSES.items():
            module = importlib.import_module(f"surelyseen.{name}")
            kind = getattr(module, word)
            self.assertEqual((kind.__module__, kind.__bases__), (module.__name__, (object,)))
            self.assertEqual(str(inspect.signature(kind)), parameters)
            for text in methods:
                method = text.split("(")[0]
                self.assertIn(method, vars(kind))
                if "(" in text:
                    own = str(inspect.signature(vars(kind)[method])).replace("(self, ", "(").replace("(self)", "()")
                    self.assertEqual(method + own, text)

    def test_attributes(self):
        self.assertEqual(len(everything()), len(CLASSES))
        for thing, attributes in everything():
            self.assertIn(type(thing).__name__, [word for _, word in CLASSES])
            for name, value in attributes.items():
                self.assertEqual(getattr(thing, name), value, name)
                self.assertEqual(type(getattr(thing, name)), type(value), name)

    def test_unlike_is_the_opposite_of_equal(self):
        comparing = [thing for thing, _ in everything() if "__eq__" in vars(type(thing))]
        self.assertEqual(len(comparing), 5)
        for thing in comparing:
            for other in comparing + [None, 0, "x", (), []]:
                self.assertIs(thing == other, thing is other)
                self.assertIs(thing != other, thing is not other)
        for thing, again in zip(everything(), everything()):
            if "__eq__" in vars(type(thing[0])):
                self.assertTrue(thing[0] == again[0] and not thing[0] != again[0])

    def test_no_function_changes_what_it_is_given(self):
        for name, word, given in calls():
            function = getattr(importlib.import_module(f"surelyseen.{name}"), word)
            lists = [one for one in given if isinstance(one, (list, tuple))]
            before = copy.deepcopy(lists)
            first = function(*given)
            self.assertEqual(lists, before, word)
            kept = copy.deepcopy(plain(first))
            spoil(first)
            self.assertEqual(lists, before, word)
            self.assertEqual(plain(function(*given)), kept, word)


def plain(found):
    """What was returned, in a form that can be compared."""
    return list(found) if isinstance(found, (Box, Desk)) else found


def spoil(found):
    """Change every list that was returned, through and through."""
    if isinstance(found, (list, tuple)):
        for one in found:
            spoil(one)
    if isinstance(found, list):
        found.append("spoiled")


if __name__ == "__main__":
    unittest.main()
