"""[0.3] and the interface: the errors."""

import unittest

from scripttrees import errors

NAMES = """InvalidPath InvalidTree NoFile NoFolder InvalidCall InvalidScript ParseError InvalidFacts InvalidFact
InvalidGroup InvalidOutcome InvalidNumber InvalidOrder InvalidTable InvalidUser TooLarge InvalidSign InvalidRights
InvalidDisk NoNode InvalidMany InvalidSize NoRoom Unsound InvalidWrites InvalidDealings InvalidMode TooMany
InvalidFlushes InvalidName Exists NoSnapshot InvalidLimits NothingToUndo""".split()


class Errors(unittest.TestCase):
    def test_base(self):
        self.assertEqual(errors.ScriptError.__bases__, (ValueError,))
        self.assertEqual(errors.ScriptError.__module__, "scripttrees.errors")

    def test_all_are_direct_subclasses(self):
        self.assertEqual(len(NAMES), 34)
        for name in NAMES:
            self.assertEqual(getattr(errors, name).__bases__, (errors.ScriptError,), name)
            self.assertEqual(getattr(errors, name).__module__, "scripttrees.errors", name)

    def test_no_further_ones(self):
        found = [name for name, value in vars(errors).items() if isinstance(value, type)]
        self.assertEqual(sorted(found), sorted(NAMES + ["ScriptError"]))
