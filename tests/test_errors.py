"""The refusals: their classes, and the values that they have from the start."""

import unittest

from signsets.errors import BadNumber, BadSet, BadSize, BadText, SetError


def one_of_each():
    return [BadSize("size"), BadSet(1, 7), BadNumber("number"), BadText(3)]


class Classes(unittest.TestCase):
    def test_set_error_is_a_value_error(self):
        self.assertTrue(issubclass(SetError, ValueError))

    def test_each_refusal_is_a_set_error_and_a_value_error(self):
        for error in one_of_each():
            self.assertIsInstance(error, SetError)
            self.assertIsInstance(error, ValueError)

    def test_each_refusal_stands_directly_below_set_error(self):
        for error in one_of_each():
            self.assertEqual(type(error).__bases__, (SetError,))

    def test_no_refusal_is_one_of_the_other_three(self):
        kinds = [BadSize, BadSet, BadNumber, BadText]
        for place, error in enumerate(one_of_each()):
            found = [isinstance(error, kind) for kind in kinds]
            self.assertEqual(found, [at == place for at in range(4)])


class Values(unittest.TestCase):
    def test_bad_set_has_number_and_at(self):
        error = BadSet(1, 40)
        self.assertEqual((error.number, error.at), (1, 40))

    def test_bad_set_takes_its_values_by_name(self):
        error = BadSet(at=5, number=0)
        self.assertEqual((error.number, error.at), (0, 5))

    def test_bad_text_has_place(self):
        self.assertEqual(BadText(0).place, 0)
        self.assertEqual(BadText(place=12).place, 12)

    def test_two_errors_do_not_share_values(self):
        one, other = BadSet(0, 1), BadSet(1, 2)
        self.assertEqual((one.number, one.at, other.number, other.at), (0, 1, 1, 2))

    def test_values_are_kept_when_raised(self):
        with self.assertRaises(SetError) as caught:
            raise BadSet(1, 3)
        self.assertEqual((caught.exception.number, caught.exception.at), (1, 3))
        with self.assertRaises(ValueError) as caught:
            raise BadText(9)
        self.assertEqual(caught.exception.place, 9)


if __name__ == "__main__":
    unittest.main()
