"""The refusals: their base classes, their values, and that none stands under another one."""

import unittest

from judgeslip import errors

REFUSALS = [
    (errors.NoText, ValueError, "place", 7),
    (errors.NoProgram, ValueError, "place", 0),
    (errors.NoStep, LookupError, "point", 12),
    (errors.TooGreat, OverflowError, "bound", 4000),
    (errors.NoRoom, ValueError, "what", "names"),
    (errors.NoName, KeyError, "name", "abc"),
    (errors.NoSaying, ValueError, "row", "no such row"),
]


class RefusalTest(unittest.TestCase):
    def test_each_stands_directly_under_its_base(self):
        for refusal, base, _, _ in REFUSALS:
            self.assertEqual(refusal.__bases__, (base,), refusal.__name__)

    def test_each_is_caught_by_its_base_and_has_its_value(self):
        for refusal, base, value_name, value in REFUSALS:
            with self.assertRaises(base) as caught:
                raise refusal(value)
            self.assertIsInstance(caught.exception, refusal)
            self.assertEqual(getattr(caught.exception, value_name), value)

    def test_the_value_may_be_handed_in_by_keyword(self):
        for refusal, _, value_name, value in REFUSALS:
            self.assertEqual(getattr(refusal(**{value_name: value}), value_name), value)

    def test_none_is_caught_by_another_one(self):
        for refusal, _, _, value in REFUSALS:
            for other, _, _, _ in REFUSALS:
                self.assertEqual(isinstance(refusal(value), other), refusal is other)

    def test_each_has_a_message(self):
        for refusal, _, _, value in REFUSALS:
            self.assertTrue(str(refusal(value)))

    def test_a_saying_that_is_no_text_is_kept_as_it_is(self):
        for told in (None, 5, True, ["run", "a"], ("run",), "", [[[]]]):
            self.assertIs(errors.NoSaying(told).row, told)


if __name__ == "__main__":
    unittest.main()
