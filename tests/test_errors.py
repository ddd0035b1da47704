"""The errors of the interface: their base class, attributes and arguments."""

import unittest

from surelyseen import errors
from surelyseen.errors import WatchError

ATTRIBUTES = {
    "BadName": ["name"], "BadWorld": [], "NoSuchSum": ["asked"], "BadText": ["text"], "BadNet": [],
    "NoHeights": ["ring"], "OtherWorld": [], "NoRun": ["balance"], "OutOfRange": ["least", "greatest"],
    "BadList": [], "NotFitting": ["number"], "TooFar": ["distance"], "BadSetup": [], "BadItem": ["item"],
    "BadLine": ["number"], "BadForm": ["part"], "BadQuestion": ["place"], "TooManyCases": ["many"],
    "BadMachine": [], "BadRule": [], "TooManySets": ["many"], "TooManyLots": ["many"], "BadMeter": [],
    "BadTrace": [], "BadCauses": [], "WouldLose": ["asked"], "NothingToUndo": [],
}


class ErrorsTest(unittest.TestCase):
    def test_there_are_27(self):
        self.assertEqual(len(ATTRIBUTES), 27)

    def test_base(self):
        self.assertEqual(WatchError.__bases__, (ValueError,))
        for name in ATTRIBUTES:
            self.assertEqual(getattr(errors, name).__bases__, (WatchError,), name)
            self.assertEqual(getattr(errors, name).__module__, "surelyseen.errors")

    def test_attributes_in_order(self):
        for name, attributes in ATTRIBUTES.items():
            error = getattr(errors, name)(*range(len(attributes)))
            self.assertIsInstance(error, WatchError)
            for place, attribute in enumerate(attributes):
                self.assertEqual(getattr(error, attribute), place, name)

    def test_missing_arguments(self):
        for name, attributes in ATTRIBUTES.items():
            if attributes:
                with self.assertRaises(TypeError):
                    getattr(errors, name)()

    def test_kept_as_passed(self):
        ring = [(0, "high"), (1, "low")]
        self.assertEqual(errors.NoHeights(ring).ring, ring)
        self.assertIsInstance(errors.NoHeights(ring).ring, list)
        balance = [(("a", 0, 0), 1), (("a", 0, 0), -1)]
        self.assertEqual(errors.NoRun(balance).balance, balance)
        self.assertIsInstance(errors.NoRun(balance).balance, list)
        item = ("rows", "all", 0, (0, 3))
        self.assertEqual(errors.BadItem(item).item, item)
        self.assertIsInstance(errors.BadItem(item).item, tuple)
        self.assertEqual(errors.NoSuchSum(("a", 0, 9)).asked, ("a", 0, 9))

    def test_lists_are_copied(self):
        ring = [(0, "high")]
        balance = [(("a", 0, 0), 1)]
        first, second = errors.NoHeights(ring), errors.NoRun(balance)
        ring.append((1, "low"))
        balance.clear()
        self.assertEqual(first.ring, [(0, "high")])
        self.assertEqual(second.balance, [(("a", 0, 0), 1)])


if __name__ == "__main__":
    unittest.main()
