"""Wishes and their parts (point 12), signs and worst constants (point 14), and what is refused."""

import unittest

from idlewishes.errors import BadPath, BadWish
from idlewishes.wishes import (
    hardened, is_plain, marks_in, need_path, need_wish, need_wishes, part_at, paths, replaced, timed_parts, worst,
)
from tests.samples import (
    A, AGREEING, B, FALSE, FAR, GREAT, GRUDGING, ODD, TRUE, TRUTHS, Case, joined, nested,
    small_wishes, some_wishes,
)

TEN = (
    TRUE, FALSE, A, ("no", A), ("and", A, B), ("or", A, B),
    ("next", A), ("till", A, B), ("ever", A), ("always", A),
)
ONE_THING = ("no", "next", "ever", "always")
TWO_THINGS = ("and", "or", "till")
TIMED = ("next", "till", "ever", "always")

# Always, what has the mark 0 is followed by the mark 1 ahead of which stays the mark 2.
ASKED = ("always", ("or", ("no", A), ("till", ("mark", 2), B)))
ASKED_PATHS = ((), (1,), (1, 1), (1, 1, 1), (1, 2), (1, 2, 1), (1, 2, 2))

# What is no tuple of a word and as many things as it wants.
FORMLESS = ODD + TRUTHS + FAR + (
    0, (), ("",), ("True",), ("none",), ("not", A), ("nexts", A), ("mark 0",), (None,), (0,), (True,),
    ([],), (b"true",), (("true",),), (AGREEING,), (GRUDGING,), ({},),
    ("true", TRUE), ("false", FALSE), ("true", None), ["true"], ["no", A], ("mark",), ("mark", 0, 0),
    ("mark", -1), ("mark", 4), ("mark", True), ("mark", False), ("mark", None), ("mark", "0"), ("mark", b"0"),
    ("mark", GREAT), ("mark", -GREAT), ("mark", (0,)), ("mark", [0]), ("mark", AGREEING), ("mark", GRUDGING),
    ("mark", A), ("no",), ("no", A, A), ("and", A), ("and",), ("and", A, A, A), ("or", A), ("or", A, A, A),
    ("next",), ("next", A, A), ("till", A), ("till", A, A, A), ("ever",), ("ever", A, B), ("always",),
    ("always", A, B), (A, "no"), ("NO", A),
)


class TestNeedWish(Case):
    def wrong(self, path, wish):
        self.refuses(BadWish, path, need_wish, wish)

    def test_ten_words(self):
        for wish in TEN:
            self.assertIs(need_wish(wish), wish)
            self.assertIs(self.same_again(need_wish, wish), wish)
        for mark in range(4):
            self.assertEqual(need_wish(("mark", mark)), ("mark", mark))
        for wish in some_wishes(5, 500) + list(small_wishes(3)):
            self.assertIs(need_wish(wish), wish)

    def test_no_form(self):
        for value in FORMLESS:
            self.wrong((), value)

    def test_no_form_within(self):
        for value in FORMLESS:
            for word in ONE_THING:
                self.wrong((1,), (word, value))
            for word in TWO_THINGS:
                self.wrong((1,), (word, value, A))
                self.wrong((2,), (word, A, value))

    def test_no_form_at_every_depth(self):
        inner, path = ("mark", 4), ()
        for word, place in (("no", 1), ("and", 2), ("or", 1), ("till", 2), ("always", 1), ("no", 1)):
            inner = (word, inner) if word in ONE_THING else (word,) + ((inner, A) if place == 1 else (A, inner))
            path = (place,) + path
            self.wrong(path, inner)
        for many in range(12):
            for value in (None, ("mark", 4), ("no",), ["true"], GRUDGING):
                self.wrong((1,) * many, nested("no", many, value))

    def test_whole_ahead_of_its_parts(self):
        self.wrong((), ("no", None, None))
        self.wrong((), ("and", None))
        self.wrong((1,), ("no", ("or", None)))
        self.wrong((1,), ("no", ("mark", None, None)))

    def test_first_ahead_of_second(self):
        for word in TWO_THINGS:
            self.wrong((1,), (word, None, None))
            self.wrong((1, 1), (word, ("no", None), None))
            self.wrong((1, 2), (word, ("and", A, None), ("no", None)))
            self.wrong((1, 1, 1), (word, ("or", ("next", None), None), None))
            self.wrong((2,), (word, ("or", A, B), None))
            self.wrong((2, 1, 1), (word, TRUE, ("or", ("no", None), None)))

    def test_parts(self):
        twelve = nested("no", 11)
        self.assertIs(need_wish(twelve), twelve)
        self.wrong((), nested("no", 12))
        self.wrong((), nested("no", 13))
        self.wrong((), nested("no", 70))
        broad = joined(A, A, A, A, A, ("no", A))
        self.assertIs(need_wish(broad), broad)
        self.wrong((), joined(A, A, A, A, A, A, A))
        self.wrong((), ("and", joined(A, B, A), joined(B, A, B, A)))

    def test_equal_parts_count_each(self):
        five = ("and", ("or", A, A), A)
        eleven = ("or", five, five)
        self.assertIs(need_wish(eleven), eleven)
        self.assertEqual(need_wish(("no", eleven)), ("no", eleven))
        self.wrong((), ("no", ("no", eleven)))

    def test_timed_parts(self):
        for word in ("next", "ever", "always"):
            self.assertEqual(need_wish(nested(word, 5)), nested(word, 5))
            self.wrong((), nested(word, 6))
            self.wrong((), nested(word, 7))
        tills = A
        for _ in range(5):
            tills = ("till", B, tills)
        self.assertIs(need_wish(tills), tills)
        mixed = ("next", ("ever", ("always", ("till", ("next", A), B))))
        self.assertIs(need_wish(mixed), mixed)
        for word in ("next", "ever", "always"):
            self.wrong((), (word, mixed))
            self.wrong((), ("till", A, (word, nested(word, 4))))
            # Equal ones count each.
            same = (word, A)
            self.assertTrue(need_wish(("or", ("and", same, same), same)))
            self.wrong((), ("or", ("and", nested(word, 2), nested(word, 2)), nested(word, 2)))
        self.wrong((), ("till", A, mixed))
        # Five timed parts and twelve parts.
        full = nested("ever", 5, nested("no", 6, A))
        self.assertIs(need_wish(full), full)
        self.wrong((), nested("ever", 6, nested("no", 5, A)))
        self.wrong((), nested("ever", 5, nested("no", 7, A)))

    def test_thirteenth_ahead_of_formless(self):
        # The thirteenth part has a form, what stands in it has none.
        self.wrong((), nested("no", 13, None))
        self.wrong((), ("and", nested("no", 11), None))
        self.wrong((), ("and", nested("no", 10), ("no", None)))
        # The thirteenth place is the first one without a form.
        self.wrong((1,) * 12, nested("no", 12, None))
        self.wrong((2,), ("and", nested("no", 10), None))
        self.wrong((2, 1), ("and", nested("no", 9), ("no", None)))
        self.wrong((1,), ("and", None, nested("no", 20)))

    def test_sixth_timed_ahead_of_formless(self):
        for word in ("next", "ever", "always"):
            self.wrong((), nested(word, 6, None))
            self.wrong((1,) * 5, nested(word, 5, None))
            self.wrong((1,) * 5, nested(word, 5, (word,)))
            self.wrong((), ("or", nested(word, 5), (word, None)))
            self.wrong((2,), ("or", nested(word, 5), None))
            self.wrong((1, 1), ("or", (word, None), nested(word, 6)))
        self.wrong((), nested("next", 5, ("till", None, None)))
        self.wrong((1,) * 4 + (2,), nested("next", 4, ("till", A, None)))
        self.wrong((1,) * 5 + (2,), nested("next", 5, ("and", A, None)))
        # What only looks like a timed part is none.
        self.wrong((1,) * 5, nested("next", 5, ("till", A)))


class TestSeveralWishes(Case):
    def test_need_wishes(self):
        for many in range(1, 7):
            wishes = some_wishes(17, many)
            self.assertEqual(self.same_again(need_wishes, tuple(wishes)), tuple(wishes))
            self.refuses(BadWish, (), need_wishes, wishes)
        self.refuses(BadWish, (), need_wishes, ())
        self.refuses(BadWish, (), need_wishes, (A,) * 7)

    def test_the_number_ahead_of_the_path(self):
        for value in FORMLESS:
            self.refuses(BadWish, (0,), need_wishes, (value,))
            self.refuses(BadWish, (1, 2, 1), need_wishes, (A, ("or", A, ("no", value)), value))
        self.refuses(BadWish, (2,), need_wishes, (A, B, nested("next", 6)))

    def test_marks_in(self):
        self.assertEqual(marks_in(TRUE), [])
        self.assertEqual(marks_in(ASKED), [0, 1, 2])
        self.assertEqual(marks_in(("and", ("mark", 3), ("or", A, ("no", ("mark", 3))))), [0, 3])


class TestPaths(Case):
    def bad(self, wish, path):
        self.refuses_itself(BadPath, path, need_path, wish, path)

    def test_paths_by_hand(self):
        self.assertEqual(paths(TRUE), ((),))
        self.assertEqual(paths(A), ((),))
        self.assertEqual(paths(("no", A)), ((), (1,)))
        self.assertEqual(paths(("till", A, B)), ((), (1,), (2,)))
        self.assertEqual(paths(ASKED), ASKED_PATHS)
        self.assertEqual(
            paths(("and", ("or", A, A), ("no", A))),
            ((), (1,), (1, 1), (1, 2), (2,), (2, 1)),
        )
        self.assertEqual(paths(nested("no", 11)), tuple((1,) * many for many in range(12)))

    def test_paths_are_ascending_and_lead_to_parts(self):
        for wish in some_wishes(6, 300):
            told = self.same_again(paths, wish)
            self.assertIs(told.__class__, tuple)
            self.assertEqual(list(told), sorted(set(told)))
            for path in told:
                self.assertIs(need_path(wish, path), path)
                part = wish
                for place in path:
                    part = part[place]
                self.assertIs(part_at(wish, path), part)
                for place in (0, 1, 2, 3):
                    longer = path + (place,)
                    if longer in told:
                        self.assertEqual(part[place], part_at(wish, longer))
                    else:
                        self.bad(wish, longer)

    def test_no_paths(self):
        for path in ODD + TRUTHS + FAR + (
            0, 1, 2, [1], (0,), (2,), (3,), (-1,), (1, 0), (1, 3), (1, 1, 2), (1, 1, 1, 1), (1, 2, 1, 1),
            (True,), (1, True), (1, False), (None,), ("1",), (b"1",), ([1],), ((1,),), (1, (2,)), (GREAT,),
            (1, GREAT), (1, -GREAT), (AGREEING,), (GRUDGING,), (1, AGREEING), (1,) * 50, (2,) * 50,
        ):
            self.bad(ASKED, path)

    def test_mark_is_no_part(self):
        for place in (0, 1, 2):
            self.bad(A, (place,))
            self.bad(B, (place,))
            self.bad(TRUE, (place,))
            self.bad(("no", B), (1, place))

    def test_part_at(self):
        self.assertIs(part_at(ASKED, ()), ASKED)
        self.assertEqual(part_at(ASKED, (1,)), ASKED[1])
        self.assertEqual(part_at(ASKED, (1, 1)), ("no", A))
        self.assertEqual(part_at(ASKED, (1, 1, 1)), A)
        self.assertEqual(part_at(ASKED, (1, 2, 1)), ("mark", 2))
        self.assertEqual(part_at(ASKED, (1, 2, 2)), B)
        self.assertEqual(self.same_again(part_at, ASKED, (1, 2)), ("till", ("mark", 2), B))


class TestReplaced(Case):
    def test_by_hand(self):
        self.assertEqual(replaced(ASKED, (), A), A)
        self.assertEqual(replaced(ASKED, (1,), B), ("always", B))
        self.assertEqual(
            self.same_again(replaced, ASKED, (1, 1, 1), ("ever", B)),
            ("always", ("or", ("no", ("ever", B)), ("till", ("mark", 2), B))),
        )
        self.assertEqual(
            replaced(ASKED, (1, 2, 1), TRUE), ("always", ("or", ("no", A), ("till", TRUE, B))),
        )
        self.assertEqual(
            replaced(ASKED, (1, 2, 2), FALSE), ("always", ("or", ("no", A), ("till", ("mark", 2), FALSE))),
        )
        self.assertEqual(replaced(("and", A, A), (1,), B), ("and", B, A))
        self.assertEqual(replaced(("and", A, A), (2,), B), ("and", A, B))

    def test_all_else_stays(self):
        for wish in some_wishes(7, 150):
            for path in paths(wish):
                self.assertEqual(replaced(wish, path, part_at(wish, path)), wish)
                new = replaced(wish, path, FALSE)
                self.assertEqual(part_at(new, path), FALSE)
                for other in paths(wish):
                    if other[:len(path)] != path and path[:len(other)] != other:
                        self.assertEqual(part_at(new, other), part_at(wish, other))

    def test_wrong_part(self):
        for part in FORMLESS:
            self.refuses(BadWish, (), replaced, ASKED, (1, 2), part)
            # The path leads from the part on.
            self.refuses(BadWish, (1,), replaced, ASKED, (1, 2), ("no", part))
            self.refuses(BadWish, (2,), replaced, ASKED, (1, 2), ("or", A, part))

    def test_wrong_part_ahead_of_too_many(self):
        eleven = nested("no", 10)
        self.refuses(BadWish, (1,), replaced, nested("no", 11), (1,) * 11, ("or", None, eleven))
        self.refuses(BadWish, (), replaced, A, (), nested("no", 12))
        self.refuses(BadWish, (), replaced, A, (), nested("next", 6))

    def test_too_many_parts(self):
        self.assertEqual(replaced(nested("no", 5), (1,) * 5, nested("no", 6)), nested("no", 11))
        self.refuses(BadWish, (), replaced, nested("no", 5), (1,) * 5, nested("no", 7))
        self.refuses(BadWish, (), replaced, nested("no", 11), (1,) * 11, ("no", A))
        # What goes away makes room.
        self.assertEqual(replaced(nested("no", 11), (1,), nested("no", 10, A)), nested("no", 11, A))
        self.assertEqual(replaced(nested("no", 11), (), nested("no", 11, A)), nested("no", 11, A))
        self.refuses(BadWish, (), replaced, nested("no", 11), (1,), nested("no", 11))
        six = joined(A, A, A, A, A, ("no", A))
        self.refuses(BadWish, (), replaced, six, (1, 2), ("no", A))
        self.assertEqual(replaced(six, (2,), B), joined(A, A, A, A, A, B))

    def test_too_many_timed_parts(self):
        self.assertEqual(replaced(nested("ever", 3), (1,) * 3, nested("next", 2)), nested("ever", 3, nested("next", 2)))
        self.refuses(BadWish, (), replaced, nested("ever", 3), (1,) * 3, nested("next", 3))
        self.refuses(BadWish, (), replaced, nested("ever", 5), (1,) * 5, ("till", A, B))
        self.assertEqual(replaced(nested("ever", 5), (1,) * 4, ("till", A, B)), nested("ever", 4, ("till", A, B)))
        self.refuses(BadWish, (), replaced, ("and", A, nested("ever", 5)), (1,), ("next", B))


class TestSigns(Case):
    def test_by_hand(self):
        for path in ASKED_PATHS:
            plain = path != (1, 1, 1)
            self.assertIs(is_plain(ASKED, path), plain)
            self.assertEqual(worst(ASKED, path), FALSE if plain else TRUE)
        # The "no" itself is read as what stands around it tells.
        four = nested("no", 4, A)
        for many in range(5):
            self.assertIs(is_plain(four, (1,) * many), many % 2 == 0)
            self.assertEqual(worst(four, (1,) * many), (FALSE, TRUE)[many % 2])

    def test_only_no_turns(self):
        for word in ("next", "ever", "always"):
            self.assertIs(is_plain((word, A), (1,)), True)
            self.assertIs(is_plain(("no", (word, A)), (1, 1)), False)
        for word in TWO_THINGS:
            for place in (1, 2):
                self.assertIs(is_plain((word, A, B), (place,)), True)
                self.assertIs(is_plain(("no", (word, A, B)), (1, place)), False)
                # A "no" beside a part does not stand around it.
                self.assertIs(is_plain((word, ("no", A), ("no", A)), (place,)), True)
                self.assertIs(is_plain((word, ("no", A), ("no", A)), (place, 1)), False)

    def test_plainly(self):
        for wish in some_wishes(8, 200):
            for path in paths(wish):
                around = [part_at(wish, path[:many])[0] for many in range(len(path))]
                plain = around.count("no") % 2 == 0
                self.assertIs(self.same_again(is_plain, wish, path), plain)
                constant = self.same_again(worst, wish, path)
                self.assertEqual(constant, FALSE if plain else TRUE)
                self.assertEqual(self.same_again(hardened, wish, path), replaced(wish, path, constant))

    def test_hardened(self):
        self.assertEqual(hardened(ASKED, ()), FALSE)
        self.assertEqual(hardened(ASKED, (1,)), ("always", FALSE))
        self.assertEqual(hardened(ASKED, (1, 1)), ("always", ("or", FALSE, ASKED[1][2])))
        self.assertEqual(hardened(ASKED, (1, 1, 1)), ("always", ("or", ("no", TRUE), ASKED[1][2])))
        self.assertEqual(hardened(ASKED, (1, 2, 1)), ("always", ("or", ("no", A), ("till", FALSE, B))))
        self.assertEqual(hardened(("no", B), ()), FALSE)
        self.assertEqual(hardened(("no", B), (1,)), ("no", TRUE))
        self.assertEqual(hardened(nested("no", 11), (1,) * 11), nested("no", 11, TRUE))
        self.assertEqual(hardened(nested("no", 11), (1,) * 10), nested("no", 10, FALSE))


class TestTimedParts(Case):
    def test_by_hand(self):
        self.assertEqual(timed_parts(A), ())
        self.assertEqual(timed_parts(joined(A, ("no", B), ("or", TRUE, FALSE))), ())
        self.assertEqual(timed_parts(ASKED), (ASKED, ASKED[1][2]))
        for wish in TEN:
            self.assertEqual(timed_parts(wish), (wish,) if wish[0] in TIMED else ())

    def test_whole_ahead_of_parts_first_ahead_of_second(self):
        wish = ("till", ("next", ("ever", A)), ("always", ("next", B)))
        self.assertEqual(
            timed_parts(wish),
            (wish, ("next", ("ever", A)), ("ever", A), ("always", ("next", B)), ("next", B)),
        )

    def test_unlike_by_first_paths(self):
        wish = ("or", ("and", ("next", ("ever", A)), ("next", B)), ("and", ("ever", A), ("next", B)))
        self.assertEqual(timed_parts(wish), (("next", ("ever", A)), ("ever", A), ("next", B)))
        self.assertEqual(timed_parts(("and", ("ever", A), ("ever", A))), (("ever", A),))
        wish = ("and", ("ever", B), ("next", ("ever", A)))
        self.assertEqual(timed_parts(wish), (("ever", B), ("next", ("ever", A)), ("ever", A)))
        self.assertEqual(timed_parts(("and", ("ever", A), ("always", A))), (("ever", A), ("always", A)))
        self.assertEqual(timed_parts(("and", ("till", A, B), ("till", B, A))), (("till", A, B), ("till", B, A)))

    def test_plainly(self):
        for wish in some_wishes(9, 300):
            firsts = {}
            for path in paths(wish):
                part = part_at(wish, path)
                if part[0] in TIMED:
                    firsts.setdefault(part, path)
            told = self.same_again(timed_parts, wish)
            self.assertIs(told.__class__, tuple)
            self.assertEqual(told, tuple(sorted(firsts, key=firsts.get)))


if __name__ == "__main__":
    unittest.main()
