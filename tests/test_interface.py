"""The interface: names, files, parameters (point 3), and which exception is raised first (point 2)."""

import inspect
import unittest

from idlewishes import errors, machines, values, wishes
from idlewishes.errors import BadMachine, BadNumber, BadPath, BadRun, BadWish, WishError
from tests.samples import A, FALSE, LASSO, ODD, TRUTHS, Case, outcome

# Each function with its parameters, in their order.
FUNCTIONS = {
    machines: {
        "need_machine": ("machine",),
        "need_run": ("machine", "run"),
        "is_run": ("machine", "value"),
        "reached": ("machine",),
        "shortest_run": ("machine",),
    },
    wishes: {
        "need_wish": ("wish",),
        "need_path": ("wish", "path"),
        "paths": ("wish",),
        "part_at": ("wish", "path"),
        "replaced": ("wish", "path", "part"),
        "is_plain": ("wish", "path"),
        "worst": ("wish", "path"),
        "hardened": ("wish", "path"),
        "timed_parts": ("wish",),
    },
    values: {
        "worths": ("machine", "wish", "run"),
        "keeps_run": ("machine", "wish", "run"),
        "worth_at": ("machine", "wish", "run", "moment"),
        "fingerprints": ("machine", "wish", "run"),
    },
}
CLASSES = {
    "WishError": None,
    "BadMachine": ("path",),
    "BadWish": ("path",),
    "BadPath": ("value",),
    "BadRun": ("value",),
    "BadNumber": ("value",),
    "BadPaper": ("word",),
    "TooGreat": ("most",),
    "BadRow": ("number",),
    "BadMenu": ("number",),
    "BadLog": ("place",),
    "BadText": ("line", "word"),
}
GOOD = {
    "machine": LASSO,
    "wish": ("always", ("or", ("no", A), ("next", A))),
    "path": (1, 1),
    "part": ("ever", A),
    "run": ((0,), (1, 2)),
    "value": ((0,), (1, 2)),
    "moment": 4,
}
# For each parameter the error that is raised, and wrong values with the field that is told.
WRONG = {
    "machine": (BadMachine, ((((0,), ((0,),), ((4,),)), (2, 0)), (None, ()), ((), ()))),
    "wish": (BadWish, ((("no", ("mark", 4)), (1,)), (None, ()), (("and", A), ()))),
    "path": (BadPath, (((2,), (2,)), (None, None), ((1, 3), (1, 3)))),
    "part": (BadWish, ((("or", A, ("no",)), (2,)), (None, ()))),
    "run": (BadRun, ((((), (1, 2)), ((), (1, 2))), (None, None))),
    "moment": (BadNumber, ((-1, -1), (None, None), (10 ** 30 + 1, 10 ** 30 + 1))),
}


def all_functions():
    """Each function of the interface with its name and the names of its parameters."""
    for module, table in FUNCTIONS.items():
        for name, names in table.items():
            yield name, getattr(module, name), names


class TestInterface(Case):
    def test_defined_in_their_files(self):
        for module, table in FUNCTIONS.items():
            for name in table:
                call = getattr(module, name)
                self.assertTrue(inspect.isfunction(call), name)
                self.assertEqual(call.__module__, module.__name__)
        for name in CLASSES:
            self.assertEqual(getattr(errors, name).__module__, "idlewishes.errors")

    def test_parameters(self):
        for name, call, names in all_functions():
            told = inspect.signature(call).parameters
            self.assertEqual(tuple(told), names, name)
            for parameter in told.values():
                self.assertIs(parameter.kind, inspect.Parameter.POSITIONAL_OR_KEYWORD, name)
                self.assertIs(parameter.default, inspect.Parameter.empty, name)
        for name, fields in CLASSES.items():
            if fields is not None:
                self.assertEqual(tuple(inspect.signature(getattr(errors, name)).parameters), fields)

    def test_by_position_and_by_name(self):
        for name, call, names in all_functions():
            args = [GOOD[parameter] for parameter in names]
            told = self.same_again(call, *args)
            for many in range(len(names)):
                rest = {parameter: GOOD[parameter] for parameter in names[many:]}
                self.assertEqual(call(*args[:many], **rest), told, name)
                turned = {parameter: rest[parameter] for parameter in reversed(list(rest))}
                self.assertEqual(call(*args[:many], **turned), told, name)

    def test_first_wrong_argument(self):
        for name, call, names in all_functions():
            args = [GOOD[parameter] for parameter in names]
            for at, parameter in enumerate(names):
                if parameter not in WRONG:
                    continue
                error, samples = WRONG[parameter]
                for value, field in samples:
                    self.refuses(error, field, call, *args[:at], value, *args[at + 1:])
                    # Whatever is wrong further behind is not told.
                    for later in range(at + 1, len(names)):
                        spoiled = list(args)
                        spoiled[at] = value
                        spoiled[later] = object()
                        self.refuses(error, field, call, *spoiled)
                    behind = [None] * (len(names) - at - 1)
                    self.refuses(error, field, call, *args[:at], value, *behind)

    def test_wrong_of_every_kind(self):
        for name, call, names in all_functions():
            for at, parameter in enumerate(names):
                if parameter not in WRONG:
                    continue
                error, _ = WRONG[parameter]
                for value in ODD + TRUTHS:
                    args = [GOOD[other] for other in names]
                    args[at] = value
                    with self.assertRaises(error) as caught:
                        call(*args)
                    self.assertIs(caught.exception.__class__, error)
                    field = list(vars(caught.exception).values())[0]
                    if error in (BadMachine, BadWish):
                        self.assertEqual(field, ())
                    else:
                        self.assertIs(field, value)

    def test_refused_again(self):
        for name, call, names in all_functions():
            for at, parameter in enumerate(names):
                if parameter in WRONG:
                    args = [GOOD[other] for other in names]
                    args[at] = WRONG[parameter][1][0][0]
                    first = outcome(call, *args)
                    self.assertNotEqual(first[0], "returns")
                    self.assertEqual(first, outcome(call, *args))
                    args[at] = GOOD[parameter]
                    self.assertEqual(outcome(call, *args)[0], "returns")

    def test_replaced_tells_the_wish_ahead_of_path_and_part(self):
        call = wishes.replaced
        self.refuses(BadWish, (1,), call, ("no", None), None, None)
        self.refuses(BadPath, None, call, ("no", A), None, None)
        self.refuses(BadPath, (1, 1), call, ("no", A), (1, 1), None)
        self.refuses(BadWish, (), call, ("no", A), (1,), None)

    def test_is_run_tells_the_machine(self):
        for value in ODD + TRUTHS + (((), (0,)),):
            self.refuses(BadMachine, (), machines.is_run, None, value)
            self.refuses(BadMachine, (2,), machines.is_run, ((0,), ((0,),), ()), value)

    def test_path_belongs_to_the_wish(self):
        self.refuses(BadPath, (1,), wishes.part_at, FALSE, (1,))
        self.refuses(BadPath, (1,), wishes.hardened, A, (1,))

    def test_all_refusals_are_wish_errors(self):
        for error, _ in WRONG.values():
            self.assertTrue(issubclass(error, WishError))
            self.assertTrue(issubclass(error, ValueError))


if __name__ == "__main__":
    unittest.main()
