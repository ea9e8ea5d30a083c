"""Point 2 and the interface, over the whole program."""

import copy
import importlib
import inspect
import unittest

from lednames.changes import Drop, Put, Swap, safe_order, table_after
from lednames.counting import count_names, name_at
from lednames.desk import Desk
from lednames.errors import BadAnswer, BadLabels, BadRow, BadTable, BadWord, LedError, NoName, NoPlace, NoRow
from lednames.far import far_answer
from lednames.least import flat_table, least_table, only_table
from lednames.ledtexts import name_text, read_name, read_table, table_text
from lednames.likeness import idle_rows, unlike_name
from lednames.moving import next_of, walk_of
from lednames.reading import answer_of, count_moves, place_of, row_uses
from lednames.tables import Lead, Other, Rest, Stop, Table, Thing, nodes_of
from lednames.tearing import torn_answers, torn_name

ERRORS = {"NoName": ["name"], "BadRow": ["what"], "BadTable": ["what", "name"], "BadWord": ["place"],
          "NoPlace": ["place"], "BadAnswer": [], "BadLabels": ["place"], "NoRow": [], "Large": ["count"],
          "BadText": ["place"], "NoBack": []}

FUNCTIONS = {
    "tables": {"nodes_of": "table"},
    "moving": {"next_of": "table name", "walk_of": "table name most"},
    "reading": {"answer_of": "table name", "count_moves": "table name", "row_uses": "table name",
                "place_of": "table name"},
    "far": {"name_after": "table name count", "ring_of": "table name", "growth_of": "table name",
            "far_answer": "table word", "far_moves": "table word"},
    "likeness": {"unlike_name": "table other", "idle_rows": "table"},
    "least": {"least_count": "table", "least_parts": "table", "least_table": "table", "count_normal": "table",
              "is_least": "table", "only_table": "table answer", "flat_table": "table"},
    "counting": {"first_name": "table answer", "count_names": "table labels length answer",
                 "name_at": "table labels length answer place"},
    "tearing": {"torn_answers": "table other name", "torn_name": "table other"},
    "changes": {"table_after": "table change", "safe_order": "table changes"},
    "ledtexts": {"name_text": "name", "table_text": "table", "answer_text": "answer", "read_name": "text",
                 "read_table": "text"},
}

CLASSES = {
    "tables": {"Thing": "name thing", "Other": "name target", "Lead": "name target", "Rest": "name thing",
               "Stop": "name", "Table": "rows"},
    "changes": {"Put": "row", "Drop": "row", "Swap": "row other"},
    "desk": {"Desk": ""},
}

ROWS = [Lead(["x"], ["y", "y"]), Lead(["y"], []), Thing(["k"], 7), Rest(["r"], -2), Other(["o"], ["x", "k"]),
        Stop(["s", "s"])]

# For each parameter something that may be handed in for it.
ARGUMENTS = {
    "table": Table(ROWS), "other": Table(ROWS[1:] + [Thing(["x", "k"], 3)]), "name": ["x", "k"], "most": 3, "count": 2,
    "word": [[["x"], 5], (["k"], 1)], "answer": ["thing", 7], "labels": ["x", "k", "y"], "length": 3, "place": 1,
    "change": Swap(ROWS[2], Thing(["k"], 8)), "changes": [Put(Thing(["z"], 1)), Drop(ROWS[0]), Drop(ROWS[5])],
    "text": "empty", "thing": 4, "target": ["a", "b"], "rows": ROWS, "row": ROWS[0],
}


def found_in(groups):
    return [(getattr(importlib.import_module(f"lednames.{module}"), name), module, words.split())
            for module, names in groups.items() for name, words in names.items()]


def kept_as_tuples(value):
    """Return the same with tuples instead of lists."""
    if isinstance(value, (list, tuple)):
        return tuple(kept_as_tuples(part) for part in value)
    return value


def holds_list(value):
    """Return whether there is a list inside a tuple."""
    return isinstance(value, list) or isinstance(value, tuple) and any(holds_list(part) for part in value)


class InterfaceTest(unittest.TestCase):
    def test_functions_stand_in_their_files(self):
        for function, module, words in found_in(FUNCTIONS):
            self.assertEqual(function.__module__, f"lednames.{module}")
            self.assertEqual(list(inspect.signature(function).parameters), words)

    def test_classes_stand_in_their_files(self):
        for kind, module, words in found_in(CLASSES):
            self.assertEqual(kind.__module__, f"lednames.{module}")
            self.assertEqual(list(inspect.signature(kind).parameters), words)
            self.assertEqual(kind.__bases__, (object,))
        self.assertIn("tell", vars(Desk))
        self.assertEqual(list(inspect.signature(Desk().tell).parameters), ["command"])

    def test_errors(self):
        errors = importlib.import_module("lednames.errors")
        self.assertEqual(LedError.__bases__, (ValueError,))
        for name, words in ERRORS.items():
            kind = getattr(errors, name)
            self.assertEqual(kind.__bases__, (LedError,))
            self.assertIn("told", vars(kind))
            error = kind(*words)
            self.assertEqual(error.told(), f"refused {name.lower()}")
            self.assertEqual(vars(error), {word: word for word in words})

    def test_fields(self):
        for kind, module, words in found_in(CLASSES):
            made = kind(**{word: ARGUMENTS[word] for word in words})
            for word in words:
                self.assertEqual(getattr(made, word), kept_as_tuples(ARGUMENTS[word]) if kind != Table
                                 else Table(ARGUMENTS["rows"]).rows)


class CallsTest(unittest.TestCase):
    def calls(self):
        for function, module, words in found_in(FUNCTIONS):
            yield function, {word: copy.deepcopy(ARGUMENTS[word]) for word in words}

    def test_arguments_by_name_and_by_place(self):
        for function, given in self.calls():
            self.assertEqual(function(**given), function(*given.values()), function)
            self.assertEqual(function(**dict(list(given.items())[::-1])), function(**given))

    def test_lists_and_tuples_are_accepted_alike(self):
        for function, given in self.calls():
            told = function(**given)
            self.assertEqual(function(**{word: kept_as_tuples(value) for word, value in given.items()}), told)

    def test_arguments_are_never_changed(self):
        for function, given in self.calls():
            function(**given)
            for word, value in given.items():
                self.assertEqual(value, ARGUMENTS[word], function)
                self.assertIs(value.__class__, ARGUMENTS[word].__class__)
            self.assertEqual([vars(row) for row in ARGUMENTS["table"].rows], [vars(row) for row in Table(ROWS).rows])

    def test_equal_results_and_new_lists(self):
        for function, given in self.calls():
            told = function(**given)
            again = function(**given)
            self.assertEqual(told, again)
            if isinstance(told, list):
                self.assertIsNot(told, again)
                self.assertFalse([part for part in told if holds_list(part)], function)
                told.append("more")
                told.reverse()
                self.assertEqual(function(**given), again)
            else:
                self.assertFalse(holds_list(told), function)

    def test_truth_values(self):
        from lednames.least import is_least
        self.assertIs(is_least(Table([Thing(["a"], 1)])), True)
        self.assertIs(is_least(Table([Stop(["a"])])), False)

    def test_later_changes_of_lists_have_no_effect(self):
        name, target, rows = ["a"], ["b"], []
        row = Lead(name, target)
        rows.append(row)
        table, change = Table(rows), Put(row)
        name.append("q")
        target.append("q")
        rows.append(Stop(["z"]))
        self.assertEqual((row.name, row.target, table.rows), (("a",), ("b",), (Lead(["a"], ["b"]),)))
        self.assertEqual(change, Put(Lead(["a"], ["b"])))


class NumbersTest(unittest.TestCase):
    def test_truth_values_are_no_numbers(self):
        table = Table(ROWS)
        for value in (True, False):
            for kind in (Thing, Rest):
                with self.assertRaises(BadRow):
                    kind(["a"], value)
            with self.assertRaises(BadAnswer):
                only_table(table, ("thing", value))
            with self.assertRaises(BadAnswer):
                count_names(table, ["a"], 1, ("thing", value))
            with self.assertRaises(BadWord):
                far_answer(table, [(["x"], value)])
            with self.assertRaises(NoPlace):
                name_at(table, ["k"], 1, ("thing", 7), value)

    def test_numbers_of_very_many_digits(self):
        for number in (10 ** 999, -(10 ** 999), 10 ** 6000):
            table = Table([Thing(["a"], number), Rest([], number)])
            self.assertEqual(answer_of(table, ["a"]), ("thing", number))
            self.assertEqual(unlike_name(table, Table([Thing(["a"], number), Rest([], number + 1)])), ("b",))
            self.assertEqual(torn_answers(table, Table([Thing(["a"], number + 1)]), ["a"]),
                             [("thing", number), ("thing", number + 1)])
            self.assertEqual(least_table(Table([*table.rows, Rest(["a"], number)])), Table([Rest([], number)]))


class OrderOfErrorsTest(unittest.TestCase):
    def assert_raises(self, kind, fields, call):
        with self.assertRaises(kind) as caught:
            call()
        self.assertEqual(vars(caught.exception), fields)

    def test_the_first_one_that_is_due(self):
        table = Table(ROWS)
        self.assert_raises(BadRow, {"what": "name"}, lambda: Thing("a", "b"))
        self.assert_raises(BadRow, {"what": "name"}, lambda: Lead("a", "b"))
        self.assert_raises(BadRow, {"what": "target"}, lambda: Lead([], "b"))
        self.assert_raises(BadLabels, {"place": 1}, lambda: count_names(table, ["a", "A"], 2, "answer"))
        self.assert_raises(BadAnswer, {}, lambda: name_at(table, ["a"], 2, "answer", "place"))
        self.assert_raises(NoPlace, {"place": "place"}, lambda: name_at(table, ["a"], 2, ("nothing",), "place"))
        self.assert_raises(NoName, {"name": "x"}, lambda: torn_answers(table, table, "x"))
        self.assert_raises(NoRow, {}, lambda: table_after(table, Swap(Stop(["q"]), Lead([], []))))
        self.assert_raises(BadTable, {"what": "row", "name": None}, lambda: table_after(table, Put("row")))

    def test_an_error_changes_no_state(self):
        desk = Desk()
        desk.tell("put thing a 1")
        for command in ("put thing a 2", "drop stop b", "table stop", "table thing a 1; thing a 2", "back now", "ask A"):
            self.assertTrue(desk.tell(command)[0].startswith("refused "))
            self.assertEqual(desk.tell("table"), ["thing a 1"])
        given = ["a", "B"]
        table = Table(ROWS)
        for call in (lambda: torn_answers(table, table, given), lambda: name_text(given), lambda: answer_of(table, given),
                     lambda: Stop(given)):
            with self.assertRaises(LedError):
                call()
        self.assertEqual((given, table), (["a", "B"], Table(ROWS)))


class ReturnedThingsTest(unittest.TestCase):
    """What a call has returned is handed in, however many rows, labels or digits it has."""

    def test_tables_of_many_rows(self):
        letters = "abcdefghi"
        rows = [Lead(["a", letter], ["b"]) for letter in letters] + [Lead(["b", letter], ["c"]) for letter in letters]
        table = Table(rows + [Thing(["c", letter], at) for at, letter in enumerate(letters)])
        flat = flat_table(table)
        self.assertEqual(len(flat.rows), 819)
        for function, module, words in found_in(FUNCTIONS):
            if "table" not in words or "change" in words or "changes" in words or "other" in words:
                continue
            given = {word: ARGUMENTS[word] for word in words}
            given["table"] = flat
            if "answer" in words:
                given["answer"] = ("nothing",)
            told = function(**given)
            self.assertEqual(function(**given), told)
        self.assertIsNone(unlike_name(flat, table))
        self.assertIsNone(unlike_name(table, flat))
        self.assertEqual(least_table(flat), least_table(table))
        self.assertEqual(flat_table(flat), flat)
        self.assertEqual(read_table(table_text(flat)), flat)
        self.assertEqual(Table(flat.rows), flat)
        after = table_after(flat, Put(Stop(["q"])))
        self.assertEqual((len(after.rows), idle_rows(after)), (820, [Stop(["q"])]))
        desk = Desk()
        self.assertEqual(desk.tell(f"table {table_text(flat)}"), ["kept"])
        self.assertEqual(desk.tell("table"), [table_text(flat)])
        self.assertEqual(desk.tell("ask a.b.b.c"), ["thing 2"])

    def test_tables_of_very_long_names(self):
        table = Table([])
        names = [("k",) * at + ("q",) for at in range(0, 600, 100)]
        for at, name in enumerate(names):
            table = table_after(table, Put(Thing(name, at)))
        table = table_after(table, Put(Lead(["k"] * 700, [])))
        least = least_table(table)
        self.assertIsNone(unlike_name(table, least))
        self.assertIsNone(torn_name(table, least))
        self.assertEqual(answer_of(least, ["k"] * 2200 + ["q"]), ("thing", 1))
        self.assertEqual(read_table(table_text(least)), least)
        self.assertEqual(torn_answers(table, least, ["k"] * 2200 + ["q"]), [("thing", 1)])

    def test_names_of_very_many_labels(self):
        table = Table([Lead(["x"], ["x"] * 12), Lead(["y"], ["z"])])
        name = walk_of(table, ["x", "k"], 2000)[-1]
        self.assertEqual(len(name), 1999 * 11 + 2)
        self.assertEqual(read_name(name_text(name)), name)
        self.assertEqual(answer_of(table, name), ("grows",))
        self.assertEqual(place_of(table, name), ("all", ("grows",)))
        self.assertIsNone(count_moves(table, name))
        self.assertIsNone(row_uses(table, name))
        self.assertEqual(next_of(table, ("y",) + name), ("to", ("z",) + name))
        self.assertEqual(torn_answers(table, Table([]), name), [("nothing",), ("grows",)])
        self.assertEqual(answer_of(Table([Other(name, name)]), name), ("round",))
        self.assertEqual(nodes_of(Table([Stop(name[:1000])]))[-1], name[:1000])

    def test_rows_and_changes(self):
        table = Table(ROWS)
        row, number = row_uses(table, ["x", "k"])[-1]
        self.assertEqual(table_after(table, Drop(row)), Table([other for other in ROWS if other != row]))
        self.assertEqual(safe_order(table, [Drop(idle) for idle in idle_rows(table)]), [0])


class EqualityTest(unittest.TestCase):
    def test_objects_of_other_classes_are_never_equal(self):
        things = [Thing(["a"], 1), Rest(["a"], 1), Other(["a"], []), Lead(["a"], []), Stop(["a"]), Table([]),
                  Table([Stop(["a"])]), Put(Stop(["a"])), Drop(Stop(["a"])), Swap(Stop(["a"]), Stop(["a"])),
                  None, 1, "stop a", ("a",), ["a"], ()]
        for at, one in enumerate(things):
            for number, other in enumerate(things):
                self.assertIs(one == other, at == number)
                self.assertIs(one != other, at != number)


if __name__ == "__main__":
    unittest.main()
