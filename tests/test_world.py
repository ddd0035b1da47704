"""The world (points 5 to 12, and 103 for worlds)."""

import unittest
from unittest import mock

from helpers import DOC_STREAMS, all_runs, doc_world, draws, drawn_run, large_world, own_cells, own_sums, own_value
from helpers import small_worlds
from surelyseen.errors import BadName, BadWorld, NoSuchSum
from surelyseen.world import World, cells_of, check_sum, is_run, sum_range, sum_value, sums


def made(streams=(("a", 0, 1), ("b", 0, 1), ("c", 0, 1), ("d", 0, 1)), ticks=4, folds=(2, 4), groups=()):
    return World(list(streams), ticks=ticks, folds=list(folds), groups=list(groups))


class WorldTest(unittest.TestCase):
    def bad_name(self, name, **parts):
        with self.assertRaises(BadName) as caught:
            made(**parts)
        self.assertEqual(caught.exception.name, name)

    def bad_world(self, **parts):
        with self.assertRaises(BadWorld):
            made(**parts)

    def test_attributes_are_tuples_throughout(self):
        world = doc_world()
        self.assertEqual(world.streams, tuple(DOC_STREAMS))
        self.assertEqual(world.ticks, 4)
        self.assertEqual(world.folds, (2, 4))
        self.assertEqual(world.groups, (("bad", ("err", "slow")),))
        self.assertIsInstance(world.streams[0], tuple)
        self.assertIsInstance(world.groups[0][1], tuple)
        self.assertEqual(World([("a", 0, 1)], ticks=2, folds=[2]).groups, ())

    def test_parts_are_passed_by_keyword(self):
        with self.assertRaises(TypeError):
            World([("a", 0, 1)], 2, [2])

    def test_streams(self):
        for many in range(1, 7):
            names = [stream[0] for stream in made(streams=[(name, 0, 1) for name in "uvwxyz"[:many]]).streams]
            self.assertEqual(names, list("uvwxyz"[:many]))
        self.bad_world(streams=[])
        self.bad_world(streams=[(name, 0, 1) for name in "abcdefg"])
        for low, high in ((0, 0), (0, 1000000), (1000000, 1000000), (5, 6)):
            self.assertEqual(made(streams=[("a", low, high)]).streams, (("a", low, high),))
        for low, high in ((-1, 0), (0, 1000001), (1000001, 1000001), (6, 5), (-2, -1)):
            self.bad_world(streams=[("a", low, high)])
            self.bad_world(streams=[("a", 0, 1), ("b", low, high)])

    def test_stream_names(self):
        for name in ("", "A", "all", "row", "a.b", "abcdefghijklm", "1"):
            self.bad_name(name, streams=[("a", 0, 1), (name, 0, 1)])
        self.bad_name("a", streams=[("a", 0, 1), ("b", 0, 1), ("a", 0, 1)])
        self.assertEqual(made(streams=[("abcdefghijkl", 0, 1)]).streams[0][0], "abcdefghijkl")

    def test_ticks_and_folds(self):
        for ticks, folds in ((2, [2]), (16, [2, 4, 8, 16]), (16, [16]), (12, [3, 12]), (15, [5, 15]), (6, [2, 6]),
                             (3, [3]), (12, [2, 4, 12]), (12, [2, 6, 12])):
            world = made(ticks=ticks, folds=folds)
            self.assertEqual((world.ticks, world.folds), (ticks, tuple(folds)))
        for ticks, folds in ((1, [1]), (1, [2]), (0, [2]), (17, [17]), (32, [2, 4, 8, 32]), (-2, [2]),
                             (4, []), (4, [1, 4]), (4, [1, 2, 4]), (4, [2]), (4, [4, 4]), (4, [2, 2, 4]), (4, [4, 2]),
                             (6, [4, 6]), (12, [2, 3, 12]), (12, [4, 6, 12]), (4, [2, 8]), (4, [8]), (8, [2, 4]),
                             (4, [0, 4]), (4, [-2, 4]), (16, [1, 2, 4, 8, 16]), (16, [2, 4, 8, 16, 32]), (4, [3, 4])):
            self.bad_world(ticks=ticks, folds=folds)

    def test_groups(self):
        good = [
            [], [("g", ["a", "b"])], [("g", ["b", "a"]), ("h", ["c", "d"])], [("g", ["a", "b"]), ("h", ["a", "b", "c"])],
            [("h", ["c", "b", "a"]), ("g", ["b", "c"])],
        ]
        for groups in good:
            self.assertEqual(made(groups=groups).groups, tuple((name, tuple(members)) for name, members in groups))
        wrong = [
            [("g", [])], [("g", ["a"])], [("g", ["a", "b", "c", "d"])], [("g", ["a", "a"])], [("g", ["a", "b", "a"])],
            [("g", ["a", "x"])], [("g", ["a", "all"])], [("g", ["a", "b"]), ("h", ["b", "c"])],
            [("g", ["a", "b"]), ("h", ["b", "a"])], [("g", ["a", "b", "c"]), ("h", ["c", "d"])],
            [("g", ["a", "b"]), ("h", ["c", "d"]), ("i", ["a", "b", "c"])], [("g", ["a", "b"]), ("h", ["g", "c"])],
        ]
        for groups in wrong:
            self.bad_world(groups=groups)
        self.bad_world(streams=[("a", 0, 1), ("b", 0, 1)], groups=[("g", ["a", "b"])])

    def test_many_groups(self):
        streams = [(name, 0, 1) for name in "abcdef"]
        four = [("g", ["a", "b"]), ("h", ["a", "b", "c"]), ("i", ["a", "b", "c", "d"]), ("j", ["e", "f"])]
        self.assertEqual(len(made(streams=streams, groups=four).groups), 4)
        six = four + [("k", ["c", "d"]), ("", ["c", "d"])]
        self.bad_world(streams=streams, groups=six)
        self.bad_world(streams=streams, groups=[("A", ["a", "b"])] * 6)

    def test_group_names(self):
        for name in ("", "G", "all", "some", "a", "abcdefghijklm"):
            self.bad_name(name, groups=[(name, ["a", "b"])])
        self.bad_name("g", groups=[("g", ["a", "b"]), ("g", ["c", "d"])])
        self.bad_name("d", groups=[("g", ["a", "b"]), ("d", ["a", "b", "c"])])

    def test_order_of_checks(self):
        many = [(name, 0, 1) for name in "ABCDEFG"]
        self.bad_world(streams=many)
        self.bad_name("B", streams=[("a", 0, 1), ("B", 5, 1)])
        self.bad_world(streams=[("a", 5, 1), ("B", 0, 1)])
        self.bad_name("a", streams=[("a", 0, 1), ("a", 5, 1), ("B", 0, 1)])
        self.bad_name("A", streams=[("A", 0, 1)], ticks=1, folds=[], groups=[("", [])])
        self.bad_world(ticks=1, folds=[2], groups=[("G", ["a", "b"])])
        self.bad_world(folds=[3], groups=[("G", ["a", "b"])])
        self.bad_name("G", groups=[("G", ["x"])])
        self.bad_world(groups=[("g", ["x"]), ("G", ["a", "b"])])
        self.bad_world(groups=[("g", ["a", "b"]), ("h", ["b", "c"]), ("G", ["a", "b"])])
        self.bad_name("G", groups=[("g", ["a", "b"]), ("G", ["b", "c"])])

    def test_equal(self):
        self.assertTrue(doc_world() == doc_world())
        self.assertFalse(doc_world() != doc_world())
        base = made(groups=[("g", ["a", "b"]), ("h", ["c", "d"])])
        others = [
            made(), made(groups=[("g", ["b", "a"]), ("h", ["c", "d"])]), made(groups=[("h", ["c", "d"]), ("g", ["a", "b"])]),
            made(groups=[("g", ["a", "b"]), ("i", ["c", "d"])]),
            made(folds=[4], groups=[("g", ["a", "b"]), ("h", ["c", "d"])]),
            made(ticks=8, folds=[2, 8], groups=[("g", ["a", "b"]), ("h", ["c", "d"])]),
            made(streams=[("b", 0, 1), ("a", 0, 1), ("c", 0, 1), ("d", 0, 1)], groups=[("g", ["a", "b"]), ("h", ["c", "d"])]),
            made(streams=[("a", 0, 1), ("b", 0, 1), ("c", 0, 1), ("d", 0, 2)], groups=[("g", ["a", "b"]), ("h", ["c", "d"])]),
        ]
        for other in others:
            self.assertFalse(base == other)
            self.assertTrue(base != other)
        self.assertTrue(base == World(base.streams, ticks=base.ticks, folds=base.folds, groups=base.groups))

    def test_equal_to_nothing_else(self):
        world = doc_world()
        for other in (None, 0, "world", (world.streams, 4, world.folds, world.groups), [], mock.ANY):
            self.assertFalse(world == other)
            self.assertTrue(world != other)

    def test_arguments_may_change_afterwards(self):
        streams, folds, members = [("a", 0, 1), ("b", 0, 1), ("c", 0, 1)], [2, 4], ["a", "b"]
        groups = [("g", members)]
        world = World(streams, ticks=4, folds=folds, groups=groups)
        before = (list(sums(world)), cells_of(world, ("g", 2, 0)))
        streams.clear()
        folds.append(8)
        members[0] = "c"
        groups.append(("h", ["a"]))
        self.assertEqual(world.groups, (("g", ("a", "b")),))
        self.assertEqual(world.folds, (2, 4))
        self.assertEqual((sums(world), cells_of(world, ("g", 2, 0))), before)

    def test_arguments_are_not_changed(self):
        streams, folds, groups = [("a", 0, 1), ("b", 0, 1), ("c", 0, 1)], [2, 4], [("g", ["b", "a"])]
        World(streams, ticks=4, folds=folds, groups=groups)
        self.assertEqual(streams, [("a", 0, 1), ("b", 0, 1), ("c", 0, 1)])
        self.assertEqual((folds, groups), ([2, 4], [("g", ["b", "a"])]))


class SumsTest(unittest.TestCase):
    def test_the_documents_example(self):
        world = doc_world()
        self.assertEqual(len(sums(world)), 33)
        self.assertEqual(len([asked for asked in sums(world) if asked[1] == 0 and asked[0] in ("ok", "err", "slow")]), 12)
        self.assertEqual(cells_of(world, ("bad", 0, 1)), [("err", 1), ("slow", 1)])
        with self.assertRaises(NoSuchSum) as caught:
            cells_of(world, ("bad", 1, 0))
        self.assertEqual(caught.exception.asked, ("bad", 1, 0))
        self.assertEqual(sum_range(world, ("all", 1, 0)), (0, 30))

    def test_order_written_out(self):
        world = World([("b", 0, 1), ("a", 0, 1), ("c", 0, 1)], ticks=4, folds=[2, 4], groups=[("h", ["a", "b"])])
        expected = []
        for who in ("b", "a", "c"):
            expected += [(who, 0, 0), (who, 0, 1), (who, 0, 2), (who, 0, 3), (who, 1, 0), (who, 1, 1), (who, 2, 0)]
        expected += [("h", 0, 0), ("h", 0, 1), ("h", 0, 2), ("h", 0, 3), ("h", 2, 0)]
        expected += [("all", 0, 0), ("all", 0, 1), ("all", 0, 2), ("all", 0, 3), ("all", 1, 0), ("all", 1, 1), ("all", 2, 0)]
        self.assertEqual(sums(world), expected)
        self.assertEqual(cells_of(world, ("h", 0, 2)), [("b", 2), ("a", 2)])
        self.assertEqual(cells_of(world, ("all", 1, 1)), [("b", 2), ("b", 3), ("a", 2), ("a", 3), ("c", 2), ("c", 3)])

    def test_one_fold(self):
        world = World([("a", 0, 1)], ticks=2, folds=[2])
        self.assertEqual(sums(world), [("a", 0, 0), ("a", 0, 1), ("a", 1, 0), ("all", 0, 0), ("all", 0, 1), ("all", 1, 0)])

    def test_all_worlds(self):
        for world in small_worlds() + [doc_world(), large_world()]:
            names = [stream[0] for stream in world.streams]
            self.assertEqual(sums(world), own_sums(world))
            for asked in own_sums(world):
                self.assertIsNone(check_sum(world, asked))
                cells = own_cells(world, asked)
                self.assertEqual(cells_of(world, asked), [(names[k], tick) for k, tick in cells])
                low = sum(world.streams[k][1] for k, _ in cells)
                high = sum(world.streams[k][2] for k, _ in cells)
                self.assertEqual(sum_range(world, asked), (low, high))

    def test_no_sums(self):
        world = doc_world()
        table = [[1, 2, 3, 0]] * 3
        wrong = [("ok", 0, 4), ("ok", 0, -1), ("ok", 1, 2), ("ok", 2, 1), ("ok", 3, 0), ("ok", -1, 0), ("bad", 1, 0),
                 ("bad", 1, 1), ("bad", 0, 4), ("bad", 2, 1), ("bad", 3, 0), ("all", 0, 4), ("all", 3, 0), ("all", 2, 1),
                 ("web", 0, 0), ("", 0, 0), ("All", 0, 0), ("err slow", 0, 0)]
        for asked in wrong:
            for call in (check_sum, cells_of, sum_range):
                with self.assertRaises(NoSuchSum) as caught:
                    call(world, asked)
                self.assertEqual(caught.exception.asked, asked)
            with self.assertRaises(NoSuchSum) as caught:
                sum_value(world, table, asked)
            self.assertEqual(caught.exception.asked, asked)

    def test_values(self):
        draw = draws(1)
        for world in small_worlds() + [doc_world(), large_world()]:
            table = drawn_run(draw, world)
            for asked in own_sums(world):
                self.assertEqual(sum_value(world, table, asked), own_value(world, table, asked))
        table = [[1, -2, 3, 4], [10, 20, 30, 40], [100, 200, 300, 400]]
        self.assertEqual(sum_value(doc_world(), table, ("ok", 1, 0)), -1)
        self.assertEqual(sum_value(doc_world(), table, ("bad", 0, 2)), 330)
        self.assertEqual(sum_value(doc_world(), table, ("all", 2, 0)), 1106)

    def test_is_run(self):
        world = World([("a", 1, 3), ("b", 0, 1000000)], ticks=2, folds=[2])
        for table in ([[1, 3], [0, 1000000]], [[2, 2], [5, 6]]):
            self.assertIs(is_run(world, table), True)
        wrong = [[], [[1, 3]], [[1, 3], [0, 0], [0, 0]], [[1], [0, 0]], [[1, 3], [0]], [[1, 3], []], [[], []],
                 [[1, 3, 2], [0, 0]], [[1, 3], [0, 0, 0]], [[0, 3], [0, 0]], [[1, 4], [0, 0]], [[1, 3], [-1, 0]],
                 [[1, 3], [0, 1000001]], [[0, 0], [1, 3]]]
        for table in wrong:
            self.assertIs(is_run(world, table), False, table)

    def test_is_run_for_all_tables(self):
        world = World([("a", 1, 2), ("b", 0, 1)], ticks=2, folds=[2])
        wide = World([("a", 0, 3), ("b", 0, 3)], ticks=2, folds=[2])
        runs = list(all_runs(world))
        for table in all_runs(wide):
            self.assertEqual(is_run(world, table), table in runs)

    def test_two_families(self):
        for world in small_worlds() + [doc_world(), large_world()]:
            top = len(world.folds)
            groups = [name for name, _ in world.groups]
            singles = [stream[0] for stream in world.streams]
            first = [s for s in sums(world) if s[0] in singles or (s[0] in groups and s[1] == top)]
            second = [s for s in sums(world) if s[0] == "all" or s[1] == 0]
            self.assertEqual([s for s in first if s in second], [s for s in first if s[1] == 0])
            for family in (first, second):
                sets = [set(cells_of(world, asked)) for asked in family]
                for place, cells in enumerate(sets):
                    for others in sets[:place]:
                        self.assertTrue(not cells & others or cells <= others or others <= cells)

    def test_returned_lists_may_change(self):
        world = doc_world()
        expected = (own_sums(world), [("err", 1), ("slow", 1)])
        found = sums(world)
        found.clear()
        cells = cells_of(world, ("bad", 0, 1))
        cells.append(("ok", 0))
        self.assertEqual((sums(world), cells_of(world, ("bad", 0, 1))), expected)


if __name__ == "__main__":
    unittest.main()
