"""What the test cases share."""

import inspect
import unittest

from twosquares.errors import PointError


class Case(unittest.TestCase):

    def assert_number(self, thing):
        self.assertIs(type(thing), int)

    def assert_point(self, thing):
        self.assertIs(type(thing), tuple)
        self.assertEqual(len(thing), 2)
        for part in thing:
            self.assert_number(part)

    def assert_refused(self, kind, call, *handed, **named):
        # Compared by what was raised, not by assertRaises: it must be this very kind.
        try:
            told = call(*handed, **named)
        except PointError as error:
            self.assertIs(type(error), kind)
            self.assertIsInstance(error, ValueError)
        else:
            self.fail(f"{call.__name__} answered {type(told)} and refused nothing")

    def assert_interface(self, module, wanted):
        for name, arguments in wanted.items():
            function = getattr(module, name)
            self.assertEqual(str(inspect.signature(function)), arguments)
            self.assertEqual((function.__module__, function.__name__), (module.__name__, name))
