"""[2] The refusals: where they stand, their texts and their fields."""

import unittest

from trueline import errors

NAMES = (
    "NoRatio", "NoNext", "NoRoot", "Unfit", "Dependent", "NoLine",
    "BadText", "TooGreat", "BadRow", "NoRow", "NoColumn", "TooMany",
)
TEXTS = ("", "a", "some words", "3", "two\nrows", "(1, 2)")


def refusals():
    return [getattr(errors, name) for name in NAMES]


class Standing(unittest.TestCase):
    def test_true_error_stands_under_value_error(self):
        self.assertTrue(issubclass(errors.TrueError, ValueError))
        self.assertEqual(errors.TrueError.__bases__, (ValueError,))

    def test_each_stands_straight_under_true_error(self):
        for refusal in refusals():
            self.assertEqual(refusal.__bases__, (errors.TrueError,), refusal)
            self.assertTrue(issubclass(refusal, ValueError), refusal)

    def test_none_stands_under_another(self):
        for one in refusals():
            for other in refusals():
                if one is not other:
                    self.assertFalse(issubclass(one, other), (one, other))

    def test_names(self):
        for name, refusal in zip(NAMES, refusals()):
            self.assertEqual(refusal.__name__, name)
        self.assertEqual(len(set(refusals())), 12)

    def test_none_is_caught_as_another(self):
        for one in refusals():
            for other in refusals():
                caught = None
                try:
                    raise one("text")
                except other:
                    caught = other
                except errors.TrueError:
                    caught = errors.TrueError
                self.assertEqual(caught, other if one is other else errors.TrueError)


class Texts(unittest.TestCase):
    def test_str_is_the_text(self):
        for refusal in refusals() + [errors.TrueError]:
            for text in TEXTS:
                self.assertEqual(str(refusal(text)), text, refusal)

    def test_str_is_the_text_beside_a_field(self):
        for text in TEXTS:
            self.assertEqual(str(errors.BadText(text, 7)), text)
            self.assertEqual(str(errors.Dependent(text, [1, -2])), text)

    def test_str_when_raised(self):
        for refusal in refusals():
            with self.assertRaises(refusal) as caught:
                raise refusal("why")
            self.assertEqual(str(caught.exception), "why")


class Fields(unittest.TestCase):
    def test_at_by_place(self):
        for at in (0, 1, 7, 10 ** 30):
            self.assertEqual(errors.BadText("text", at).at, at)

    def test_at_left_out(self):
        at = errors.BadText("text").at
        self.assertEqual(at, 0)
        self.assertIs(type(at), int)

    def test_weights_by_place(self):
        for weights in ([], [0, 1], [3, -2, 0, 5], [10 ** 40, -1]):
            told = errors.Dependent("text", weights).weights
            self.assertEqual(told, weights)
            self.assertIs(type(told), list)

    def test_weights_left_out(self):
        told = errors.Dependent("text").weights
        self.assertEqual(told, [])
        self.assertIs(type(told), list)

    def test_weights_are_copied(self):
        weights = [1, 2, 3]
        refusal = errors.Dependent("text", weights)
        weights.append(4)
        weights[0] = 9
        self.assertEqual(refusal.weights, [1, 2, 3])

    def test_weights_told_are_not_those_handed_in(self):
        weights = [1, 2, 3]
        refusal = errors.Dependent("text", weights)
        refusal.weights.append(4)
        self.assertEqual(weights, [1, 2, 3])
        self.assertEqual(errors.Dependent("text", weights).weights, [1, 2, 3])

    def test_empty_weights_handed_in_are_copied(self):
        weights = []
        refusal = errors.Dependent("text", weights)
        weights.append(1)
        self.assertEqual(refusal.weights, [])

    def test_weights_left_out_are_not_shared(self):
        one = errors.Dependent("text")
        other = errors.Dependent("text")
        one.weights.append(1)
        self.assertEqual(other.weights, [])
        self.assertEqual(errors.Dependent("text").weights, [])

    def test_weights_are_not_shared_between_two_of_one_list(self):
        weights = [1, 2]
        one = errors.Dependent("text", weights)
        other = errors.Dependent("text", weights)
        one.weights[0] = 5
        self.assertEqual(other.weights, [1, 2])


if __name__ == "__main__":
    unittest.main()
