"""The interface of the document: its names, where they are defined, and their parameters."""

import importlib
import inspect
import unittest

from nearseats import errors

# For each module its functions; and for each class its parameters, its methods, and its properties.
FUNCTIONS = {
    "names": {"is_name": "(value)", "is_number": "(value, least, most)", "is_member": "(value)",
              "member_name": "(family, k)", "written_number": "(word)"},
    "changes": {"with_room": "(book, room, seats)", "with_seats": "(book, room, seats)",
                "with_order": "(book, room, members)", "with_family": "(book, family, size, deals)",
                "with_deals": "(book, family, deals)", "without_family": "(book, family)",
                "cut": "(book, family, many)", "exchanged": "(book, room, place)",
                "renamed": "(book, *, rooms, families)"},
    "clauses": {"ways": "(wishes)", "lets": "(clause, way, roads)",
                "listed": "(wishes, clauses, roads, *, most=24)"},
    "rules": {"read_rules": "(text)"},
    "blocking": {"chosen": "(book, room, members, *, seats=None)", "blocks": "(assignment, number, *, seats=None)",
                 "blocking": "(assignment, *, seats=None)", "is_stable": "(assignment, *, seats=None)"},
    "answers": {"reasons_for": "(assignment, *, seats=None)"},
    "judging": {"judge": "(book, answer)", "is_right": "(assignment, number, reason, *, seats=None)"},
    "shares": {"row_sum": "(table, shares, row)", "full_rows": "(table, shares)",
               "dominating_row": "(table, shares, number)", "is_dominating": "(table, shares)",
               "check_shares": "(table, shares)"},
    "bases": {"independent_rows": "(rows)", "determinant": "(rows)"},
    "ordinal": {"is_ordinal": "(table, columns)", "worst_column": "(table, columns, row)",
                "home": "(table, columns, column)", "replacement": "(table, columns, column)",
                "first_ordinal": "(table, row)"},
    "walks": {"is_complete": "(table, columns)", "complete_sets": "(table)", "shares_of": "(book, *, first=0)"},
    "placing": {"place": "(book, *, first=0)", "place_shares": "(book, shares)", "changed_seats": "(book, answer)"},
    "trees": {"judge_tree": "(book, tree)", "surely_over": "(book, decided)", "surely_blocking": "(book, decided)",
              "leaves": "(tree)"},
    "settling": {"settle": "(book)"},
    "tries": {"after": "(assignment, number, *, seats=None)"},
    "slack": {"spare": "(assignment, *, seats=None)", "harmless": "(assignment, *, seats=None)",
              "leavers": "(assignment, *, seats=None)"},
}
CLASSES = {
    "books": {"Book": ("(rooms, families, orders)", {
        "room_names": "()", "family_names": "()", "seats": "()", "size": "(family)", "deals": "(family)",
        "numbers": "(family)", "members": "(family)", "order": "(room)", "room_seats": "(room)", "deal": "(number)",
        "family_of": "(number)", "sent": "(number, room)", "number_of": "(family, deal)", "is_open": "(family, deal)",
        "text": "()", "read": "(text)", "empty": "()", "__eq__": "(other)", "__len__": "()", "__bool__": "()",
        "__repr__": "()", "__add__": "(other)"}, ("width", "many_open"))},
    "roads": {"Roads": ("(rooms, roads)", {"distance": "(one, other)", "rooms_within": "(room, k)", "__len__": "()",
                                           "__bool__": "()"}, ())},
    "assignments": {"Assignment": ("(book, deals)", {
        "deals": "()", "residents": "(room)", "counts": "()", "over": "(*, seats=None)", "with_deal": "(family, number)",
        "empty": "(book)", "__getitem__": "(family)", "__contains__": "(number)", "__eq__": "(other)", "__len__": "()",
        "__bool__": "()", "__repr__": "()"}, ())},
    "answers": {"Answer": ("(seats, deals, reasons)", {
        "seats": "()", "deals": "()", "reasons": "()", "reason": "(number)", "text": "(book)", "read": "(book, text)",
        "__eq__": "(other)", "__repr__": "()"}, ())},
    "judging": {"Fault": ("(at, why)", {"__eq__": "(other)", "__repr__": "()"}, ())},
    "tables": {"Table": ("(book)", {
        "rows": "()", "row_of": "(kind, name)", "entry": "(row, column)", "bound": "(row)", "order": "(row)",
        "is_better": "(row, one, other)", "takes_part": "(row, number)", "column_of": "(number)",
        "number_of_column": "(column)", "__eq__": "(other)", "__repr__": "()"}, ("many_rows", "many_columns"))},
    "shares": {"Shares": ("(numbers, *, below=1)", {
        "numbers": "()", "share": "(at)", "text": "()", "__eq__": "(other)", "__len__": "()", "__bool__": "()",
        "__repr__": "()"}, ("is_whole",))},
    "bases": {"Basis": ("(table, columns)", {
        "columns": "()", "value_of": "(column)", "weights": "(column)", "leaving": "(column)", "with_column": "(column)",
        "shares": "()", "idle": "(table)", "__eq__": "(other)", "__len__": "()", "__bool__": "()", "__repr__": "()"},
        ("is_feasible",))},
    "walks": {"Walk": ("(table, *, first=0, start=None)", {
        "feasible": "()", "ordinal": "()", "basis": "()", "step": "()", "log": "()", "run": "()", "back": "()",
        "twin": "()", "__repr__": "()"}, ("ended", "complete", "found_shares", "many_steps"))},
    "regions": {"Region": ("(unknowns, *rows)", {
        "rows": "()", "__contains__": "(point)", "tight": "(point)", "is_vertex": "(point)", "greatest": "(weights)", "is_empty": "()",
        "__len__": "()", "__bool__": "()", "__repr__": "()"}, ())},
    "rounding": {"Rounding": ("(book, shares)", {
        "unsettled": "()", "settled": "()", "released": "()", "full": "()", "region": "()", "weight_list": "()",
        "releasable": "()", "step": "()", "release": "(room)", "run": "()", "undo": "()", "twin": "()", "final": "()",
        "found_seats": "()", "__repr__": "()"}, ("present", "ended", "next_kind"))},
    "trees": {"TreeFault": ("(way, why)", {"__eq__": "(other)", "__repr__": "()"}, ())},
    "settling": {"Stable": ("(assignment)", {"__eq__": "(other)", "__bool__": "()", "__repr__": "()"}, ()),
                 "Never": ("(tree)", {"__eq__": "(other)", "__bool__": "()", "__repr__": "()"}, ())},
    "tries": {"Try": ("(assignment, *, order='lowest', seats=None)", {
        "step": "()", "run": "(*, most=None)", "log": "()", "undo": "()", "twin": "()", "__repr__": "()"},
        ("present", "turn", "many_steps", "ended", "rests", "ring"))},
    "desk": {"Desk": ("()", {
        "run": "(script)", "trial": "(script)", "names": "()", "kept": "(name)", "twin": "()", "text": "()",
        "read": "(text)", "__getitem__": "(name)", "__contains__": "(name)", "__len__": "()", "__bool__": "()",
        "__repr__": "()"}, ("many_changes",))},
}
STATIC = (("books", "Book", "read"), ("books", "Book", "empty"), ("assignments", "Assignment", "empty"),
          ("answers", "Answer", "read"), ("bases", "Basis", "idle"), ("desk", "Desk", "read"))
LEAVES = {
    "SeatError": (ValueError, "BadBook(line, why), BadRules(line, why), BadPaper(line, why), BadDesk(line, why), "
                  "InvalidSeats(at), InvalidDeals(at), InvalidShares(at), InvalidColumns(at), InvalidColumn(value), "
                  "InvalidRow(value), InvalidRegion(at), InvalidWishes(at), InvalidClause(at), InvalidRoad(at), "
                  "InvalidOrder(value), InvalidPlace(value), Overfull(at), NotDominating(number), Dependent(), "
                  "NotFeasible(), NotOrdinal(), NotComplete(), NotStable(number), NotReleasable(room), NoPoint(), "
                  "Unbounded()"),
    "Missing": (LookupError, "UnknownRoom(value), UnknownFamily(value), UnknownDeal(value), UnknownBook(value)"),
}


def parameters(function, bound):
    """The signature as it is written, without the parameter for the object itself."""
    told = inspect.signature(function)
    kept = list(told.parameters.values())[1 if bound else 0:]
    return str(told.replace(parameters=kept))


class InterfaceTest(unittest.TestCase):
    def test_functions(self):
        for name, functions in FUNCTIONS.items():
            module = importlib.import_module(f"nearseats.{name}")
            for word, told in functions.items():
                function = vars(module)[word]
                self.assertEqual((function.__module__, function.__name__), (f"nearseats.{name}", word))
                self.assertEqual(parameters(function, False), told, word)

    def test_classes(self):
        for name, classes in CLASSES.items():
            module = importlib.import_module(f"nearseats.{name}")
            for word, (told, methods, properties) in classes.items():
                found = vars(module)[word]
                self.assertEqual((found.__module__, found.__name__), (f"nearseats.{name}", word))
                self.assertEqual(parameters(found.__init__, True), told if word != "Desk" else "()")
                for method, wanted in methods.items():
                    static = (name, word, method) in STATIC
                    self.assertIs(isinstance(vars(found)[method], staticmethod), static, method)
                    self.assertEqual(parameters(getattr(found, method), not static), wanted, f"{word}.{method}")
                for part in properties:
                    self.assertIsInstance(vars(found)[part], property)

    def test_generators(self):
        for name, word in (("blocking", "blocking"), ("walks", "complete_sets")):
            self.assertTrue(inspect.isgeneratorfunction(vars(importlib.import_module(f"nearseats.{name}"))[word]))

    def test_errors(self):
        for base, (python, words) in LEAVES.items():
            self.assertEqual(vars(errors)[base].__bases__, (python,))
            for word in words.split("), "):
                name, _, told = word.rstrip(")").partition("(")
                error = vars(errors)[name]
                self.assertEqual((error.__bases__, error.__module__), ((vars(errors)[base],), "nearseats.errors"))
                self.assertEqual(parameters(error.__init__, True), f"({told})")
                values = [[at, None] for at in range(len(told.split(", ")) if told else 0)]
                made = error(*values)
                self.assertEqual([getattr(made, part) for part in told.split(", ") if part], values)
                self.assertEqual(made.code, name)
        for name in ("Finished", "NotEnded", "NothingLeft"):
            self.assertEqual((vars(errors)[name].__bases__, vars(errors)[name]().code), ((RuntimeError,), name))

    def test_nothing_else_is_an_error(self):
        known = {word.partition("(")[0] for _, words in LEAVES.values() for word in words.split("), ")}
        found = {name for name, part in vars(errors).items() if inspect.isclass(part)}
        self.assertEqual(found, known | set(LEAVES) | {"Finished", "NotEnded", "NothingLeft"})


if __name__ == "__main__":
    unittest.main()
