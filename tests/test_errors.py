"""Point [2]: the errors."""

import unittest

from espalier import errors
from espalier.errors import Broken, EspalierError, NotValid


class ErrorsTest(unittest.TestCase):
    def test_espalier_error_is_a_direct_subclass_of_value_error(self):
        self.assertEqual(EspalierError.__bases__, (ValueError,))

    def test_the_refusals_are_direct_subclasses_of_espalier_error(self):
        self.assertEqual(NotValid.__bases__, (EspalierError,))
        self.assertEqual(Broken.__bases__, (EspalierError,))

    def test_there_are_no_other_errors(self):
        found = sorted(c.__name__ for c in EspalierError.__subclasses__())
        self.assertEqual(found, ["Broken", "NotValid"])

    def test_each_is_defined_in_its_file(self):
        for error in (EspalierError, NotValid, Broken):
            self.assertEqual(error.__module__, errors.__name__)

    def test_each_is_created_without_an_argument(self):
        for error in (EspalierError, NotValid, Broken):
            self.assertIsInstance(error(), ValueError)
            self.assertIsInstance(error(), error)

    def test_none_takes_an_argument(self):
        for error in (EspalierError, NotValid, Broken):
            with self.assertRaises(TypeError):
                error("text")

    def test_not_valid_and_broken_are_caught_apart(self):
        with self.assertRaises(NotValid):
            try:
                raise NotValid()
            except Broken:
                self.fail("a NotValid is no Broken")
        with self.assertRaises(Broken):
            try:
                raise Broken()
            except NotValid:
                self.fail("a Broken is no NotValid")


if __name__ == "__main__":
    unittest.main()
