"""Points 0.1 to 0.6 over the whole program, and the names of the interface."""

import ast
import importlib
import inspect
import itertools
import pathlib
import random
import unittest

from lumprow import counts, desk, errors, far, ferries, jumps, kept, reports, rows, tables, texts, thinning, walks, ways
from lumprow.rows import Row

from helping import (
    FORTY, GREATEST, RefusalCase, ferried_so_often, great_rows, pairs_of, places_of, scattered, small_rows, spaced)

PACKAGE = pathlib.Path(__file__).resolve().parent.parent / "lumprow"
INTERFACE = {
    "rows": {
        "Row": "stretches", "row_of_balls": "places", "ball_at": "row place", "balls_in": "row low high",
        "ball_count": "row", "gaps_of": "row", "moved": "row by", "mirrored": "row", "alike": "one two"},
    "texts": {
        "number_text": "number", "number_told": "text", "written": "row", "read": "text", "picture": "row low high",
        "pictured": "text low"},
    "ferries": {"gone": "row seats", "back": "row seats", "taken": "row seats", "aboard": "row seats place"},
    "walks": {"walk": "row cut", "top": "row cut", "first_at": "row level", "partner": "row place"},
    "thinning": {
        "thinned": "row layers", "thickened": "row layers", "struck": "row", "put_in": "row pairs", "closes_at": "row"},
    "tables": {"table_of": "row", "row_of": "table", "lumps_of": "row"},
    "jumps": {"shifted": "table seats times", "after": "row seats times", "done": "row deeds"},
    "kept": {
        "takings": "row most", "told_taking": "lumps seats", "lumps_by": "told", "columns": "lumps",
        "same_lumps": "one two"},
    "far": {
        "settled": "row", "early": "row", "settles": "row", "earlies": "row", "far_lines": "row", "early_lines": "row",
        "delays": "row"},
    "counts": {
        "rooms": "boxes lumps", "how_many": "boxes lumps", "numbered": "boxes lumps number", "in_all": "boxes balls",
        "number_of": "boxes row"},
    "ways": {"ways": "one two", "led_by": "one two seats"},
    "reports": {"table_text": "table", "table_told": "text"},
    "desk": {"Desk": "text"}}
DESK = {"do": "self text", "left": "self", "row": "self", "text": "self", "lumps": "self", "ahead": "self seats times"}
REFUSALS = ("BadRow", "TooMany", "BadText", "BadSeats", "BadTable", "BadDeed", "Unlike", "NoRow")


def parameters(call):
    return " ".join(inspect.signature(call).parameters)


def seats_word(seats):
    return "all" if seats is None else str(seats)


def list_calls():
    """Each function that tells a list, with things to hand in."""
    row = Row([(0, 3), (5, 1), (9, 2)])
    lumps = [(1, 1), (2, 1), (3, 1)]
    table = tables.table_of(row)
    return [
        (rows.gaps_of, row), (thinning.struck, row), (tables.table_of, row), (tables.lumps_of, row),
        (jumps.shifted, table, 2, 3), (kept.takings, row, 5), (kept.lumps_by, [2, 3, 4, 4]), (kept.columns, lumps),
        (far.far_lines, row), (far.early_lines, row), (far.delays, row), (counts.rooms, 30, lumps),
        (ways.ways, row, rows.moved(row, 5)), (reports.table_told, reports.table_text(table))]


def row_calls():
    """Each function that tells a row, with things to hand in that leave it as it is, where there are such."""
    row = Row([(0, 3), (5, 1), (9, 2)])
    table = tables.table_of(row)
    return [
        (rows.row_of_balls, [0, 1, 2, 5, 9, 10]), (rows.moved, row, 0), (rows.mirrored, row), (texts.read, "row 0+3\n"),
        (texts.pictured, "***..*", 0), (ferries.gone, row, 2), (ferries.back, row, 2), (thinning.thinned, row, 0),
        (thinning.thickened, row, 0), (thinning.put_in, row, [(3, 1)]), (tables.row_of, table),
        (jumps.after, row, 2, 0), (jumps.done, row, []),
        (counts.numbered, 30, [(1, 2), (3, 1)], 7), (desk.Desk("row 0+3 5+1\n").row,)]


class Interface(unittest.TestCase):
    def test_every_name_with_its_arguments(self):
        for module, names in INTERFACE.items():
            told = importlib.import_module("lumprow." + module)
            for name, arguments in names.items():
                self.assertEqual(parameters(getattr(told, name)), arguments, name)
                self.assertEqual(getattr(told, name).__module__, "lumprow." + module)

    def test_the_desk(self):
        methods = {name: parameters(value) for name, value in vars(desk.Desk).items() if inspect.isfunction(value)}
        methods.pop("__init__")
        self.assertEqual(methods, DESK)

    def test_a_row_has_no_method_but_the_making(self):
        self.assertEqual([name for name, value in vars(Row).items() if inspect.isfunction(value)], ["__init__"])

    def test_every_refusal(self):
        for name in REFUSALS:
            self.assertEqual(getattr(errors, name).__bases__, (errors.LumpError,))
        self.assertEqual(errors.LumpError.__bases__, (ValueError,))

    def test_nothing_from_outside(self):
        for path in PACKAGE.glob("*.py"):
            for node in ast.walk(ast.parse(path.read_text(encoding="utf-8"))):
                self.assertNotIsInstance(node, ast.Import)
                if isinstance(node, ast.ImportFrom):
                    self.assertTrue(node.module.startswith("lumprow."), path.name)


class AskersOwn(RefusalCase):
    def test_told_lists_that_were_changed_are_told_alike_again(self):
        for call, *told in list_calls():
            self.told_alike_again(call, *told)

    def test_lists_of_tuples_and_numbers(self):
        for call, *told in list_calls():
            first = call(*told)
            self.assertTrue(first)
            self.assertEqual(len({type(part) for part in first}), 1)
            self.assertIn(type(first[0]), (tuple, int))

    def test_told_rows_are_new_ones(self):
        for call, *told in row_calls():
            row = call(*told)
            self.assertIs(type(row), Row)
            self.assertIs(type(row.stretches), tuple)
            self.assertEqual({type(pair) for pair in row.stretches}, {tuple})
            kept_stretches = row.stretches
            for other in told:
                self.assertIsNot(row, other)
            row.stretches = ()
            self.assertEqual(call(*told).stretches, kept_stretches)

    def test_nothing_handed_in_is_changed(self):
        for call, *told in list_calls() + row_calls():
            before = [part.stretches if isinstance(part, Row) else repr(part) for part in told]
            call(*told)
            self.assertEqual([part.stretches if isinstance(part, Row) else repr(part) for part in told], before)

    def test_what_was_handed_in_may_be_changed_later(self):
        pairs = [(0, 3), (5, 1)]
        row = Row(pairs)
        pairs.append((9, 9))
        self.assertEqual(row.stretches, ((0, 3), (5, 1)))
        table = [(1, 3, 1), (3, 0, 1)]
        row = tables.row_of(table)
        moved_table = jumps.shifted(table, None, 0)
        table.clear()
        self.assertEqual(row.stretches, ((0, 3), (5, 1)))
        self.assertEqual(moved_table, [(1, 3, 1), (3, 0, 1)])

    def test_what_was_told_may_be_handed_in_again(self):
        row = Row([(-GREATEST, 5), (FORTY, GREATEST), (3 * GREATEST, 7)])
        for times in (GREATEST, -GREATEST):
            far_row = jumps.after(jumps.after(row, GREATEST, times), None, times)
            again = ways.ways(far_row, row)
            self.assertEqual(jumps.done(far_row, again).stretches, row.stretches)
            table = tables.table_of(far_row)
            self.assertEqual(tables.row_of(table).stretches, far_row.stretches)
            self.assertEqual(reports.table_told(reports.table_text(table)), table)
            self.assertEqual(texts.read(texts.written(far_row)).stretches, far_row.stretches)
            self.assertEqual(kept.columns(kept.columns(tables.lumps_of(far_row))), tables.lumps_of(row))
            self.assertEqual(far.delays(far_row), far.delays(row))
        self.assertEqual(desk.Desk(texts.written(far_row)).text(), texts.written(far_row))


class AnyOrder(RefusalCase):
    def in_each_way(self, row, deeds):
        """The stretches behind deeds: by the desk in one text and in several, by the table, and by rows."""
        one, several = desk.Desk(texts.written(row)), desk.Desk(texts.written(row))
        lines = ["go %s %d\n" % (seats_word(seats), times) for seats, times in deeds]
        one.do("".join(lines))
        table = tables.table_of(row)
        left = row
        for line, (seats, times) in zip(lines, deeds):
            several.do(line)
            table = jumps.shifted(table, seats, times)
            left = jumps.after(left, seats, times)
        told = [one.row(), several.row(), tables.row_of(table), left, jumps.done(row, deeds)]
        self.assertEqual(one.lumps(), reports.table_text(table))
        return [row.stretches for row in told]

    def test_small_rows_box_by_box(self):
        deeds = [(2, 1), (None, -1), (1, 2)]
        for places, row in small_rows(6):
            for order in itertools.permutations(deeds):
                left = places
                for seats, times in order:
                    left = ferried_so_often(left, seats, times)
                self.assertEqual(self.in_each_way(row, order), [pairs_of(left)] * 5)

    def test_the_order_does_not_matter_box_by_box(self):
        for seed in range(12):
            row = scattered(seed, 1 + seed, 5, 4)
            ends = set()
            for order in itertools.permutations([(3, 2), (1, -4), (None, 3)]):
                left = places_of(row)
                for seats, times in order:
                    left = ferried_so_often(left, seats, times)
                self.assertEqual(self.in_each_way(row, order), [pairs_of(left)] * 5)
                ends.add(pairs_of(left))
            self.assertEqual(len(ends), 1)

    def test_great_rows_and_times(self):
        chance = random.Random(7)
        for small, by, move, row in great_rows():
            deeds = [(1, 10 ** 29), (by + 1, -7), (None, 10 ** 30 - 1), (FORTY, -10 ** 28), (GREATEST, 3)]
            ends = set()
            for k in range(3):
                chance.shuffle(deeds)
                ends.update(self.in_each_way(row, deeds))
            self.assertEqual(len(ends), 1)

    def test_one_by_one_with_the_ferries_themselves(self):
        for row in [scattered(seed, seed, 6, 4) for seed in range(0, 31, 5)] + [Row(spaced(30))]:
            for order in itertools.permutations([(2, 2), (5, -3), (None, 1)]):
                left = row
                for seats, times in order:
                    for going in range(abs(times)):
                        left = ferries.gone(left, seats) if times > 0 else ferries.back(left, seats)
                self.assertEqual(self.in_each_way(row, order), [left.stretches] * 5)

    def test_ways_are_deeds_for_the_desk(self):
        for seed in range(1, 25):
            row = scattered(seed, seed, 7, 5)
            two = jumps.done(row, [(2, seed), (3, -7), (None, 4), (1, -seed)])
            told = ways.ways(row, two)
            self.assertEqual(self.in_each_way(row, told), [two.stretches] * 5)
            self.assertEqual(self.in_each_way(row, told[::-1]), [two.stretches] * 5)


class OneWithAnother(RefusalCase):
    def test_rows_of_counted_numbers_and_their_goings(self):
        lumps = [(1, 2), (2, 1), (4, 1)]
        for number in range(0, counts.how_many(24, lumps), 97):
            row = counts.numbered(24, lumps, number)
            self.assertEqual(tables.lumps_of(row), lumps)
            self.assertTrue(kept.same_lumps(row, ferries.gone(row, 2)))
            behind = rows.moved(row, 3)
            self.assertEqual(counts.number_of(30, behind)[0], lumps)
            self.assertEqual(ways.led_by(row, behind, 1), 3)

    def test_the_desk_counts_as_rows_do(self):
        one = desk.Desk("row\n")
        one.do("put 0\nput 1\nput 5\ngo 2 3\nmove -2\n")
        lumps, number = counts.number_of(40, one.row())
        self.assertEqual(texts.written(counts.numbered(40, lumps, number)), one.text())
        self.assertEqual(reports.table_told(one.lumps()), tables.table_of(one.row()))

    def test_walks_and_far_lines_of_a_desk_row(self):
        one = desk.Desk("row 0+3 5+1\n")
        one.do("go all %d\n" % far.settles(one.row()))
        self.assertTrue(far.settled(one.row()))
        self.assertEqual(walks.first_at(one.row(), 0), 0)


if __name__ == "__main__":
    unittest.main()
