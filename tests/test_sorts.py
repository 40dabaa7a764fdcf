"""Points 3 and 10: plain sorts and sorts, of any value."""

import unittest
from itertools import product

from playsalike.sorts import is_plain, is_sort
from samples import ODD_VALUES

PLAIN = ("num", "do", "box")


class Sorts(unittest.TestCase):
    def test_plain_sorts(self):
        for word in PLAIN:
            self.assertIs(is_plain(word), True)

    def test_no_plain_sorts(self):
        for thing in ODD_VALUES + ["nu", "nums", "NUM", " do", "box ", b"num", ("box",), "dobox"]:
            if thing not in PLAIN:
                self.assertIs(is_plain(thing), False, thing)
                self.assertIs(is_plain(thing=thing), False)

    def test_all_sorts(self):
        for many in range(4):
            for taken in product(PLAIN, repeat=many):
                self.assertIs(is_sort((taken, "num")), True)
                self.assertIs(is_sort((taken, "do")), True)
                self.assertIs(is_sort((taken, "box")), many == 0)

    def test_no_sorts(self):
        wrong = [((), "num", ()), ((),), ("num", ()), ((), None), ((None,), "num"), ((True,), "do"),
                 (["num"], "num"), [("num",), "num"], (("num",) * 4, "num"), ((), ("num",)),
                 ((), "nu"), (("num", "d"), "do"), ("", "num"), ("num", "num"), ({}, "num"),
                 ((("num",),), "num"), (("num", "do", "box", "do"), "num"), (None, "num"),
                 ((), ["num"]), ((["num"],), "num")]
        for thing in wrong:
            self.assertIs(is_sort(thing), False, thing)
            self.assertIs(is_sort(thing=thing), False)

    def test_no_sorts_of_odd_values(self):
        for thing in ODD_VALUES:
            self.assertIs(is_sort(thing), thing == ((), "num"), thing)


if __name__ == "__main__":
    unittest.main()
