"""loginstacks/errors.py: the classes, their base and their attributes."""

import unittest

from loginstacks import errors
from tests.support import Case

PLAIN = ("InvalidPlace", "TooMany", "UnknownModule", "InvalidMode", "UnknownView", "InvalidNumber")
ATTRIBUTES = {
    "InvalidRule": "part", "InvalidStack": "index", "UnknownRule": "index",
    "InvalidAnswers": "name", "InvalidWeights": "name", "InvalidService": "part", "InvalidNeeds": "name",
    "InvalidCosts": "name", "InvalidLock": "part", "InvalidEvent": "index",
}


class ErrorsTest(Case):
    def test_base_class(self):
        self.assertEqual(errors.StackError.__bases__, (ValueError,))

    def test_direct_subclasses(self):
        for name in PLAIN + tuple(ATTRIBUTES):
            self.assertEqual(getattr(errors, name).__bases__, (errors.StackError,), name)

    def test_attributes(self):
        for name, attribute in ATTRIBUTES.items():
            for error in (getattr(errors, name)("pin"), getattr(errors, name)(**{attribute: "pin"})):
                self.assertEqual(vars(error), {attribute: "pin"})
                self.assertTrue(str(error))

    def test_plain_ones_take_a_message(self):
        for name in PLAIN:
            self.assertEqual(str(getattr(errors, name)("why")), "why")


if __name__ == "__main__":
    unittest.main()
