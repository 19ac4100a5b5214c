"""nearseats.errors: the values, the codes and the bases of the errors."""

import unittest

from nearseats import errors

SEAT_ERRORS = {
    "BadBook": ("line", "why"), "BadRules": ("line", "why"), "BadPaper": ("line", "why"),
    "BadDesk": ("line", "why"), "InvalidSeats": ("at",), "InvalidDeals": ("at",), "InvalidShares": ("at",),
    "InvalidColumns": ("at",), "InvalidColumn": ("value",), "InvalidRow": ("value",), "InvalidRegion": ("at",),
    "InvalidWishes": ("at",), "InvalidClause": ("at",), "InvalidRoad": ("at",), "InvalidOrder": ("value",),
    "InvalidPlace": ("value",), "Overfull": ("at",), "NotDominating": ("number",), "Dependent": (),
    "NotFeasible": (), "NotOrdinal": (), "NotComplete": (), "NotStable": ("number",), "NotReleasable": ("room",),
    "NoPoint": (), "Unbounded": (),
}
MISSING = {name: ("value",) for name in ("UnknownRoom", "UnknownFamily", "UnknownDeal", "UnknownBook")}
RUNTIME = {"Finished": (), "NotEnded": (), "NothingLeft": ()}
ALL = {**SEAT_ERRORS, **MISSING, **RUNTIME}
VALUES = (None, True, -7, "word", ("a", 1), ["list"], {"key": [1]}, 10 ** 900)


class ErrorsTest(unittest.TestCase):
    def test_values_by_position_and_by_name(self):
        for name, parameters in ALL.items():
            made = getattr(errors, name)
            for value in VALUES:
                values = [value, ("second", value)][:len(parameters)]
                for error in (made(*values), made(**dict(zip(parameters, values)))):
                    self.assertEqual([getattr(error, word) for word in parameters], values)

    def test_the_wrong_number_of_values_is_refused(self):
        for name, parameters in ALL.items():
            with self.assertRaises(TypeError):
                getattr(errors, name)(*range(len(parameters) + 1))

    def test_code(self):
        for name, parameters in ALL.items():
            self.assertEqual(getattr(errors, name)(*parameters).code, name)

    def test_direct_bases(self):
        self.assertEqual(errors.SeatError.__bases__, (ValueError,))
        self.assertEqual(errors.Missing.__bases__, (LookupError,))
        for names, base in ((SEAT_ERRORS, errors.SeatError), (MISSING, errors.Missing), (RUNTIME, RuntimeError)):
            for name in names:
                self.assertEqual(getattr(errors, name).__bases__, (base,))

    def test_no_other_class_is_a_subclass_of_another(self):
        for one in ALL:
            for other in ALL:
                self.assertEqual(issubclass(getattr(errors, one), getattr(errors, other)), one == other)

    def test_no_class_stands_there_but_these(self):
        classes = [name for name, value in vars(errors).items() if isinstance(value, type)]
        self.assertEqual(sorted(classes), sorted([*ALL, "SeatError", "Missing"]))

    def test_they_can_be_raised_and_caught(self):
        for name, parameters in ALL.items():
            made = getattr(errors, name)
            with self.assertRaises(made):
                raise made(*parameters)


if __name__ == "__main__":
    unittest.main()
