"""Point 7 and the interface of quillhouse.errors: the classes of refusals."""

import unittest

from quillhouse.errors import HouseError, NoDealing, NoPage, NoRoom, Taken

REFUSALS = [NoDealing, NoPage, Taken, NoRoom]


def taken_as(raised, caught):
    try:
        raise raised("refused")
    except caught:
        return True
    except Exception:
        return False


class TestErrors(unittest.TestCase):
    def test_house_error_stands_under_value_error(self):
        self.assertEqual(HouseError.__bases__, (ValueError,))

    def test_each_refusal_stands_under_house_error(self):
        for refusal in REFUSALS:
            with self.subTest(refusal=refusal.__name__):
                self.assertEqual(refusal.__bases__, (HouseError,))

    def test_names(self):
        names = [refusal.__name__ for refusal in [HouseError] + REFUSALS]
        self.assertEqual(names, ["HouseError", "NoDealing", "NoPage", "Taken", "NoRoom"])

    def test_each_is_taken_as_itself_as_house_error_and_as_value_error(self):
        for refusal in [HouseError] + REFUSALS:
            for caught in [refusal, HouseError, ValueError]:
                with self.subTest(raised=refusal.__name__, caught=caught.__name__):
                    self.assertTrue(taken_as(refusal, caught))

    def test_none_of_the_four_is_taken_as_another(self):
        for raised in REFUSALS:
            for caught in REFUSALS:
                if raised is not caught:
                    with self.subTest(raised=raised.__name__, caught=caught.__name__):
                        self.assertFalse(taken_as(raised, caught))

    def test_house_error_and_value_error_are_not_taken_as_one_of_the_four(self):
        for raised in [HouseError, ValueError]:
            for caught in REFUSALS:
                with self.subTest(raised=raised.__name__, caught=caught.__name__):
                    self.assertFalse(taken_as(raised, caught))

    def test_value_error_is_not_taken_as_house_error(self):
        self.assertFalse(taken_as(ValueError, HouseError))

    def test_can_be_raised_without_and_with_words(self):
        for refusal in [HouseError] + REFUSALS:
            with self.subTest(refusal=refusal.__name__):
                with self.assertRaises(refusal):
                    raise refusal
                with self.assertRaises(refusal) as caught:
                    raise refusal("some words")
                self.assertEqual(str(caught.exception), "some words")


if __name__ == "__main__":
    unittest.main()
