"""The forms that several files look for or make."""

import unittest

from idlewishes.forms import all_lots, is_ascending, is_number, is_whole, lots_by_size
from tests.plain import plain_lots
from tests.samples import FAR, ODD, TRUTHS, Case


class TestForms(Case):
    def test_whole(self):
        for value in FAR + (0, 1, 2 ** 70):
            self.assertIs(is_whole(value), True)
        for value in ODD + TRUTHS + ((), (0,), "0"):
            self.assertIs(is_whole(value), False)

    def test_number(self):
        told = [is_number(value, 1, 3) for value in (-1, 0, 1, 2, 3, 4)]
        self.assertEqual(told, [False, False, True, True, True, False])
        for value in ODD + TRUTHS + ((), (0,)):
            self.assertIs(is_number(value, 0, 3), False)

    def test_ascending(self):
        for value in ((), (0,), (3,), (0, 3), (0, 1, 2, 3)):
            self.assertIs(is_ascending(value, 3), True)
        for value in ((4,), (-1,), (0, 0), (1, 0), (0, 2, 1), (True,), (None,), [0], 0) + ODD + TRUTHS:
            self.assertIs(is_ascending(value, 3), False)
        self.assertIs(is_ascending((), -1), True)
        self.assertIs(is_ascending((0,), -1), False)

    def test_all_lots(self):
        self.assertEqual(all_lots(0), [()])
        self.assertEqual(all_lots(2), [(), (0,), (0, 1), (1,)])
        for many in range(6):
            self.assertEqual(all_lots(many), sorted(plain_lots(many)))

    def test_lots_by_size(self):
        self.assertEqual(lots_by_size(0), [()])
        self.assertEqual(lots_by_size(3), [(), (0,), (1,), (2,), (0, 1), (0, 2), (1, 2), (0, 1, 2)])
        for many in range(6):
            self.assertEqual(lots_by_size(many), plain_lots(many))


if __name__ == "__main__":
    unittest.main()
