import unittest

from retroact import errors

SINGLE = {
    "TooLarge": ("limit", "text"),
    "Fault": ("reason", "zero"),
    "ImpossibleEvent": ("event", ("deliver", 3)),
    "InvalidMoment": ("moment", -1),
    "InvalidLine": ("number", 4),
    "InvalidRules": ("number", 0),
    "NotLayered": ("names", ["p", "q"]),
    "InvalidPatch": ("name", "shop"),
    "InvalidPrices": ("name", "pay"),
    "UnknownEffect": ("name", "mail"),
}


class ErrorTests(unittest.TestCase):
    def test_base_class(self):
        self.assertEqual(errors.RetroactError.__bases__, (ValueError,))

    def test_every_error_is_directly_below_the_base_class(self):
        for name in list(SINGLE) + ["TextError", "ConversionFault", "InvalidUnknown", "InvalidJournal"]:
            self.assertEqual(getattr(errors, name).__bases__, (errors.RetroactError,), name)
            self.assertEqual(getattr(errors, name).__module__, "retroact.errors")

    def test_errors_with_one_argument(self):
        for name, (attribute, worth) in SINGLE.items():
            error = getattr(errors, name)(worth)
            self.assertEqual(vars(error), {attribute: worth}, name)
            self.assertEqual(vars(getattr(errors, name)(**{attribute: worth})), {attribute: worth}, name)

    def test_text_error(self):
        error = errors.TextError(3, 14, "word")
        self.assertEqual((error.line, error.column, error.reason), (3, 14, "word"))
        error = errors.TextError(reason="end", line=1, column=2)
        self.assertEqual((error.line, error.column, error.reason), (1, 2, "end"))

    def test_conversion_fault(self):
        error = errors.ConversionFault((0, 1), "range")
        self.assertEqual((error.path, error.reason), ((0, 1), "range"))
        error = errors.ConversionFault(reason="zero", path=())
        self.assertEqual((error.path, error.reason), ((), "zero"))

    def test_errors_without_arguments(self):
        for name in ("InvalidUnknown", "InvalidJournal"):
            self.assertIsInstance(getattr(errors, name)(), errors.RetroactError)
            with self.assertRaises(TypeError):
                getattr(errors, name)(1)

    def test_errors_can_be_caught_as_value_errors(self):
        with self.assertRaises(ValueError):
            raise errors.Fault("fail")


if __name__ == "__main__":
    unittest.main()
