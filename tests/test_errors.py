import unittest

from platepiles.errors import NoWidth, PlateError


class ErrorsTest(unittest.TestCase):
    def test_bases(self):
        self.assertEqual(PlateError.__bases__, (ValueError,))
        self.assertEqual(NoWidth.__bases__, (PlateError,))

    def test_each_is_taken_as_itself_and_as_any_of_its_bases(self):
        taken_as = {
            PlateError: (PlateError, ValueError, Exception),
            NoWidth: (NoWidth, PlateError, ValueError, Exception),
        }
        for error, kinds in taken_as.items():
            for kind in kinds:
                with self.subTest(error=error, kind=kind):
                    with self.assertRaises(kind) as caught:
                        raise error("words of its own")
                    self.assertIs(type(caught.exception), error)
                    self.assertEqual(str(caught.exception), "words of its own")

    def test_a_plate_error_is_not_taken_as_no_width(self):
        self.assertNotIsInstance(PlateError("other"), NoWidth)

    def test_python_errors_are_not_taken_as_refusals(self):
        self.assertNotIsInstance(ValueError("other"), PlateError)
