import unittest

from flowreprise import errors


class TestErrors(unittest.TestCase):
    def test_base_class(self):
        self.assertEqual(errors.FlowError.__bases__, (ValueError,))

    def test_classes_and_attributes(self):
        for name in ("WrittenError", "ReadError", "FormError"):
            kind = getattr(errors, name)
            self.assertEqual(kind.__bases__, (errors.FlowError,))
            self.assertEqual(kind(7).at, 7)
        self.assertEqual(errors.CheckError.__bases__, (errors.FlowError,))
        self.assertEqual(errors.CheckError((0, 1)).place, (0, 1))
        self.assertEqual(errors.VerifyError.__bases__, (errors.FlowError,))
        self.assertEqual(errors.VerifyError("flow", 3).function, "flow")
        self.assertEqual(errors.VerifyError("flow", 3).place, 3)
        self.assertEqual(errors.StateError.__bases__, (errors.FlowError,))
        self.assertEqual(errors.StateError("answer").word, "answer")

    def test_messages_are_strings(self):
        for error in (errors.WrittenError(1), errors.CheckError((0, 1)), errors.VerifyError("f", 2),
                      errors.StateError("step")):
            self.assertTrue(str(error))


if __name__ == "__main__":
    unittest.main()
