"""The interface: names, files, parameters (point 3), and which exception is raised first (point 2)."""

import inspect
import unittest

from idlewishes import (
    beside, desk, errors, idle, keeping, logs, lots, machines, monitors, shortest, texts, touched, twice, values,
    watch, wishes,
)
from idlewishes.errors import (
    BadLog, BadMachine, BadMenu, BadNumber, BadPaper, BadPath, BadRow, BadRun, BadText, BadWish, TooGreat, WishError,
)
from tests.samples import A, FALSE, LASSO, ODD, TRUTHS, Case, outcome

# Each function with its parameters, in their order.
FUNCTIONS = {
    machines: {
        "need_machine": ("machine",),
        "need_run": ("machine", "run"),
        "is_run": ("machine", "value"),
        "reached": ("machine",),
        "shortest_run": ("machine",),
    },
    wishes: {
        "need_wish": ("wish",),
        "need_path": ("wish", "path"),
        "paths": ("wish",),
        "part_at": ("wish", "path"),
        "replaced": ("wish", "path", "part"),
        "is_plain": ("wish", "path"),
        "worst": ("wish", "path"),
        "hardened": ("wish", "path"),
        "timed_parts": ("wish",),
    },
    values: {
        "worths": ("machine", "wish", "run"),
        "keeps_run": ("machine", "wish", "run"),
        "worth_at": ("machine", "wish", "run", "moment"),
        "fingerprints": ("machine", "wish", "run"),
    },
    keeping: {
        "keeps": ("machine", "wish"),
        "failing_run": ("machine", "wish"),
        "keep_paper": ("machine", "wish"),
        "check_keep": ("machine", "wish", "paper"),
    },
    idle: {
        "is_idle": ("machine", "wish", "path"),
        "idle_parts": ("machine", "wish"),
        "passes_idly": ("machine", "wish"),
        "highest_idle": ("machine", "wish"),
        "interesting_run": ("machine", "wish", "path"),
        "idle_paper": ("machine", "wish", "path"),
        "check_idle": ("machine", "wish", "path", "paper"),
        "softened": ("wish", "path"),
        "rests_on": ("machine", "wish", "path"),
        "blamed_parts": ("machine", "wish"),
    },
    twice: {
        "places": ("wish", "part"),
        "has_one_sign": ("wish", "part"),
        "freed": ("wish", "part"),
        "doubled": ("machine",),
        "is_idle_by_moments": ("machine", "wish", "part"),
        "is_idle_by_standings": ("machine", "wish", "part"),
        "is_idle_by_constants": ("machine", "wish", "part"),
        "breaking_lot": ("machine", "wish", "part"),
        "moments_paper": ("machine", "wish", "part"),
        "check_moments": ("machine", "wish", "part", "paper"),
    },
    lots: {
        "hardened_at": ("wish", "lot"),
        "are_idle": ("machine", "wish", "lot"),
        "idle_lots": ("machine", "wish"),
        "cleared": ("wish",),
        "harder_wishes": ("machine", "wish"),
    },
    beside: {
        "follows": ("one", "other"),
        "apart_run": ("one", "other"),
        "is_apart_run": ("one", "other", "value"),
        "are_alike": ("one", "other"),
        "is_always_so": ("wish",),
        "can_be_so": ("wish",),
        "apart_on": ("machine", "one", "other"),
        "follows_on": ("machine", "one", "other"),
        "are_alike_on": ("machine", "one", "other"),
        "needless_wishes": ("wishes",),
    },
    touched: {
        "turned": ("machine", "standing", "mark"),
        "with_way": ("machine", "one", "other"),
        "touched": ("machine", "wish"),
        "untouched": ("machine", "wishes"),
        "fewest_wishes": ("machine", "wishes"),
        "free_ways": ("machine", "wish"),
    },
    shortest: {
        "shortest_failing": ("machine", "wish"),
        "shortest_interesting": ("machine", "wish", "path"),
    },
    monitors: {
        "verdict": ("machine", "wish", "row"),
        "shortest_row": ("machine", "wish", "word"),
        "is_always_told": ("machine", "wish"),
        "count_rows": ("machine", "wish", "size", "word"),
    },
    logs: {
        "fitting_wishes": ("machine", "menu", "log"),
        "first_false": ("machine", "menu", "log"),
    },
    texts: {
        "machine_text": ("machine",),
        "wish_text": ("wish",),
        "run_text": ("machine", "run"),
        "read_machine": ("text",),
        "read_wish": ("text",),
        "read_run": ("machine", "text"),
    },
}
CLASSES = {
    "WishError": None,
    "BadMachine": ("path",),
    "BadWish": ("path",),
    "BadPath": ("value",),
    "BadRun": ("value",),
    "BadNumber": ("value",),
    "BadPaper": ("word",),
    "TooGreat": ("most",),
    "BadRow": ("number",),
    "BadMenu": ("number",),
    "BadLog": ("place",),
    "BadText": ("line", "word"),
}
GOOD = {
    "machine": LASSO,
    "wish": ("always", ("or", ("no", A), ("next", A))),
    "path": (1, 1),
    "part": ("ever", A),
    "run": ((0,), (1, 2)),
    "value": ((0,), (1, 2)),
    "moment": 4,
    "lot": ((1, 1), (1, 2, 1)),
    "one": ("always", ("or", ("no", A), ("next", A))),
    "other": ("ever", A),
    "wishes": (("ever", A), ("next", A), A, ("always", ("ever", ("mark", 1)))),
    "standing": 2,
    "mark": 0,
    "row": (0, 1, 2, 1),
    "word": "kept",
    "size": 4,
    "menu": (A, ("next", A), ("ever", ("mark", 1))),
    "log": [(((0,), (1, 2)), True), (((0, 1), (2, 1)), True), (((0,), (1, 2)), False)],
}
# What holds only for one function.
GOOD_FOR = {
    "check_keep": {"paper": keeping.keep_paper(GOOD["machine"], GOOD["wish"])},
    "check_idle": {"paper": idle.idle_paper(GOOD["machine"], GOOD["wish"], GOOD["path"])},
    "check_moments": {"paper": twice.moments_paper(GOOD["machine"], GOOD["wish"], GOOD["part"])},
    "with_way": {"one": 1, "other": 0},
    "is_apart_run": {"value": (((0,), (1,)), ((0, 1),))},
    "read_machine": {"text": texts.machine_text(GOOD["machine"])},
    "read_wish": {"text": texts.wish_text(GOOD["wish"])},
    "read_run": {"text": texts.run_text(GOOD["machine"], GOOD["run"])},
}
# For each parameter the error that is raised, and wrong values with the field that is told.
WRONG = {
    "machine": (BadMachine, ((((0,), ((0,),), ((4,),)), (2, 0)), (None, ()), ((), ()))),
    "wish": (BadWish, ((("no", ("mark", 4)), (1,)), (None, ()), (("and", A), ()))),
    "path": (BadPath, (((2,), (2,)), (None, None), ((1, 3), (1, 3)))),
    "part": (BadWish, ((("or", A, ("no",)), (2,)), (None, ()))),
    "run": (BadRun, ((((), (1, 2)), ((), (1, 2))), (None, None))),
    "moment": (BadNumber, ((-1, -1), (None, None), (10 ** 30 + 1, 10 ** 30 + 1))),
    "lot": (BadPath, ((((1,), (1, 1)), ((1,), (1, 1))), (None, None), (((2,),), ((2,),)))),
    "paper": (BadPaper, ((None, "form"), ((), "form"), (("yes", ()), "form"))),
    "one": (BadWish, ((("no", ("mark", 4)), (1,)), (None, ()), (("and", A), ()))),
    "other": (BadWish, ((("no", ("mark", 4)), (1,)), (None, ()), (("and", A), ()))),
    "wishes": (BadWish, (((A, ("no", ("mark", 4))), (1, 1)), (None, ()), ((), ()), ((A, None), (1,)))),
    "standing": (BadNumber, ((4, 4), (-1, -1), (None, None))),
    "mark": (BadNumber, ((4, 4), (-1, -1), (None, None))),
    "row": (BadRow, (((0, 1, 2, 0), 3), (None, None), ([1], 0))),
    "word": (BadNumber, (("yes", "yes"), ("", ""), (None, None))),
    "size": (BadNumber, ((201, 201), (-1, -1), (None, None))),
    "menu": (BadMenu, (((A, ("no", None)), 1), (None, None), ((), None))),
    "log": (BadLog, (([(((0,), (1, 2)), 1)], 0), (None, None), (((((0,), (1, 2)), True), None), 1))),
}
WRONG_STANDING = WRONG["standing"]
# What holds only for one function.
WRONG_FOR = {
    "with_way": {"one": WRONG_STANDING, "other": WRONG_STANDING},
}


def good_for(name, names):
    """Arguments that a function takes, in their order."""
    table = {**GOOD, **GOOD_FOR.get(name, {})}
    return [table[parameter] for parameter in names]


def wrong_for(name, parameter):
    """The error of a parameter of a function with some samples, or None."""
    return WRONG_FOR.get(name, {}).get(parameter, WRONG.get(parameter))


def all_functions():
    """Each function of the interface with its name and the names of its parameters."""
    for module, table in FUNCTIONS.items():
        for name, names in table.items():
            yield name, getattr(module, name), names


# Each class with what it is made of, and what it defines itself.
MADE = {
    watch.Watch: (
        ("machine", "wish"), ("model", "asked", "row"),
        {
            "tells": (), "choices": (), "step": ("standing",), "undo": (), "redo": (), "copy": (), "trial": (),
            "__len__": (), "__eq__": ("other",),
        },
    ),
    desk.Desk: (("text", "wish"), ("watch",), {"say": ("line",)}),
}


class TestInterface(Case):
    def test_classes(self):
        for made, (names, read, methods) in MADE.items():
            self.assertEqual(tuple(inspect.signature(made).parameters), names)
            for name in read:
                self.assertIsInstance(vars(made)[name], property)
            for name, told in methods.items():
                self.assertTrue(inspect.isfunction(vars(made)[name]), name)
                self.assertEqual(tuple(inspect.signature(vars(made)[name]).parameters)[1:], told, name)
        self.assertEqual(watch.Watch.__module__, "idlewishes.watch")
        self.assertEqual(watch.under.__module__, "idlewishes.watch")
        self.assertEqual(tuple(inspect.signature(watch.under).parameters), ("manager", "deed"))
        self.assertEqual(desk.Desk.__module__, "idlewishes.desk")

    def test_no_state_is_kept(self):
        # No state is kept: what was asked ahead changes no answer.
        told = [outcome(call, *good_for(name, names)) for name, call, names in all_functions()]
        again = [outcome(call, *good_for(name, names)) for name, call, names in list(all_functions())[::-1]]
        self.assertEqual(told, again[::-1])
        self.assertTrue(all(word == "returns" for word, _ in told))

    def test_texts_are_refused_behind_the_machine(self):
        for value in (None, "", "ahead"):
            self.refuses(BadMachine, (), texts.read_run, None, value)
        with self.assertRaises(BadText):
            texts.read_run(LASSO, "ahead 0")

    def test_defined_in_their_files(self):
        for module, table in FUNCTIONS.items():
            for name in table:
                call = getattr(module, name)
                self.assertTrue(inspect.isfunction(call), name)
                self.assertEqual(call.__module__, module.__name__)
        for name in CLASSES:
            self.assertEqual(getattr(errors, name).__module__, "idlewishes.errors")

    def test_parameters(self):
        for name, call, names in all_functions():
            told = inspect.signature(call).parameters
            self.assertEqual(tuple(told), names, name)
            for parameter in told.values():
                self.assertIs(parameter.kind, inspect.Parameter.POSITIONAL_OR_KEYWORD, name)
                self.assertIs(parameter.default, inspect.Parameter.empty, name)
        for name, fields in CLASSES.items():
            if fields is not None:
                self.assertEqual(tuple(inspect.signature(getattr(errors, name)).parameters), fields)

    def test_by_position_and_by_name(self):
        for name, call, names in all_functions():
            args = good_for(name, names)
            told = self.same_again(call, *args)
            for many in range(len(names)):
                rest = dict(list(zip(names, args))[many:])
                self.assertEqual(call(*args[:many], **rest), told, name)
                turned = {parameter: rest[parameter] for parameter in reversed(list(rest))}
                self.assertEqual(call(*args[:many], **turned), told, name)

    def test_first_wrong_argument(self):
        for name, call, names in all_functions():
            args = good_for(name, names)
            for at, parameter in enumerate(names):
                if wrong_for(name, parameter) is None:
                    continue
                error, samples = wrong_for(name, parameter)
                for value, field in samples:
                    self.refuses(error, field, call, *args[:at], value, *args[at + 1:])
                    # Whatever is wrong further behind is not told.
                    for later in range(at + 1, len(names)):
                        spoiled = list(args)
                        spoiled[at] = value
                        spoiled[later] = object()
                        self.refuses(error, field, call, *spoiled)
                    behind = [None] * (len(names) - at - 1)
                    self.refuses(error, field, call, *args[:at], value, *behind)

    def test_wrong_of_every_kind(self):
        for name, call, names in all_functions():
            for at, parameter in enumerate(names):
                if wrong_for(name, parameter) is None:
                    continue
                error, _ = wrong_for(name, parameter)
                for value in ODD + TRUTHS:
                    # A list can be a begin, or a log.
                    if parameter in ("row", "log") and isinstance(value, list):
                        continue
                    args = good_for(name, names)
                    args[at] = value
                    with self.assertRaises(error) as caught:
                        call(*args)
                    self.assertIs(caught.exception.__class__, error)
                    field = list(vars(caught.exception).values())[0]
                    self.told_of_odd(error, value, field)

    def told_of_odd(self, error, value, field):
        """What is told of an odd value."""
        if error in (BadMachine, BadWish):
            self.assertEqual(field, ())
        elif error is BadPaper:
            self.assertEqual(field, "form")
        elif error in (BadRow, BadMenu, BadLog):
            self.assertIsNone(field)
        else:
            self.assertIs(field, value)

    def test_refused_again(self):
        for name, call, names in all_functions():
            for at, parameter in enumerate(names):
                if wrong_for(name, parameter) is not None:
                    good = good_for(name, names)
                    args = list(good)
                    args[at] = wrong_for(name, parameter)[1][0][0]
                    first = outcome(call, *args)
                    self.assertNotEqual(first[0], "returns")
                    self.assertEqual(first, outcome(call, *args))
                    args[at] = good[at]
                    self.assertEqual(outcome(call, *args)[0], "returns")

    def test_replaced_tells_the_wish_ahead_of_path_and_part(self):
        call = wishes.replaced
        self.refuses(BadWish, (1,), call, ("no", None), None, None)
        self.refuses(BadPath, None, call, ("no", A), None, None)
        self.refuses(BadPath, (1, 1), call, ("no", A), (1, 1), None)
        self.refuses(BadWish, (), call, ("no", A), (1,), None)

    def test_is_run_tells_the_machine(self):
        for value in ODD + TRUTHS + (((), (0,)),):
            self.refuses(BadMachine, (), machines.is_run, None, value)
            self.refuses(BadMachine, (2,), machines.is_run, ((0,), ((0,),), ()), value)

    def test_too_many_standings_come_last(self):
        many = ((0,), ((0,),) * 7, ((),) * 7)
        for call in (twice.breaking_lot, twice.is_idle_by_standings):
            self.refuses(TooGreat, 6, call, many, A, A)
            self.refuses(BadMachine, (1,), call, (many[0], many[1][1:], many[2]), None, None)
            self.refuses(BadWish, (1,), call, many, ("no", None), None)
            self.refuses(BadWish, (2,), call, many, A, ("or", A, None))

    def test_path_belongs_to_the_wish(self):
        self.refuses(BadPath, (1,), wishes.part_at, FALSE, (1,))
        self.refuses(BadPath, (1,), wishes.hardened, A, (1,))

    def test_all_refusals_are_wish_errors(self):
        for error, _ in WRONG.values():
            self.assertTrue(issubclass(error, WishError))
            self.assertTrue(issubclass(error, ValueError))


if __name__ == "__main__":
    unittest.main()
