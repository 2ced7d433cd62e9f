import unittest

from pulledonce import errors
from tests.support import any_values

ATTRIBUTES = {
    "BadSource": "value",
    "BadStages": "value",
    "BadStage": "position",
    "BadPositions": "value",
    "BadReply": "value",
    "BadReplies": "position",
    "HasZip": "position",
    "BadLoop": "value",
    "BadText": "line",
}


def cases():
    return [(getattr(errors, name), attribute) for name, attribute in ATTRIBUTES.items()]


class ErrorsTest(unittest.TestCase):
    def test_stream_error_is_a_value_error(self):
        self.assertEqual(errors.StreamError.__bases__, (ValueError,))
        self.assertIsInstance(errors.StreamError("x"), ValueError)

    def test_each_is_a_direct_subclass_and_of_no_other_class(self):
        for kind, _ in cases():
            self.assertEqual(kind.__bases__, (errors.StreamError,))
            self.assertEqual(kind.__module__, "pulledonce.errors")
            for other, _ in cases():
                self.assertEqual(issubclass(kind, other), kind is other)

    def test_made_by_place(self):
        for kind, attribute in cases():
            for value in any_values():
                self.assertIs(getattr(kind(value), attribute), value)

    def test_made_by_name(self):
        for kind, attribute in cases():
            for value in any_values():
                self.assertIs(getattr(kind(**{attribute: value}), attribute), value)

    def test_made_with_one_argument_of_that_name_only(self):
        for kind, attribute in cases():
            other = "position" if attribute != "position" else "value"
            for given, named in [((), {}), ((1, 2), {}), ((), {other: 1}), ((1,), {attribute: 1})]:
                with self.assertRaises(TypeError):
                    kind(*given, **named)

    def test_the_value_is_kept_and_not_copied(self):
        for kind, attribute in cases():
            for value in ([1, [2]], {"a": [1]}):
                error = kind(value)
                if isinstance(value, list):
                    value[1].append(3)
                    value.append(4)
                else:
                    value["a"].append(2)
                    value["b"] = 3
                self.assertIs(getattr(error, attribute), value)
                self.assertIn(getattr(error, attribute), ([1, [2, 3], 4], {"a": [1, 2], "b": 3}))

    def test_raised_and_caught_as_each_of_its_classes(self):
        for kind, attribute in cases():
            for caught in (kind, errors.StreamError, ValueError):
                with self.assertRaises(caught) as seen:
                    raise kind(7)
                self.assertIs(type(seen.exception), kind)
                self.assertEqual(getattr(seen.exception, attribute), 7)

    def test_each_tells_itself_for_any_value(self):
        for kind, attribute in cases():
            for value in any_values():
                self.assertIsInstance(str(kind(value)), str)
                self.assertIsInstance(str(kind(**{attribute: value})), str)

    def test_two_errors_are_apart(self):
        first, second = errors.BadSource(1), errors.BadSource(2)
        self.assertEqual([first.value, second.value], [1, 2])


if __name__ == "__main__":
    unittest.main()
