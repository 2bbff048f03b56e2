"""[4], [20]: the errors and their fields."""

import unittest

from rowqueue import errors
from rowqueue.errors import QueueError

FIELDS = {
    "Wrong": ["place"],
    "BadLine": ["at"],
    "NoPlan": [],
    "BadRow": ["at"],
    "Past": ["now"],
    "Known": ["name"],
    "NoRow": ["name"],
    "NoOrigin": ["name"],
    "Stale": ["name"],
    "TooMany": ["limit"],
    "NoForm": [],
    "Unlike": [],
    "NoWeaving": ["number"],
    "Stopped": ["at"],
    "Nothing": [],
    "NoText": [],
    "NoCommand": [],
}


def made(name, value=None):
    return getattr(errors, name)(*[value for _ in FIELDS[name]])


class Errors(unittest.TestCase):
    def test_there_are_these_classes_and_no_others(self):
        found = [name for name, thing in vars(errors).items() if isinstance(thing, type)]
        self.assertEqual(sorted(found), sorted(list(FIELDS) + ["QueueError"]))
        self.assertEqual(len(FIELDS), 17)

    def test_each_is_a_direct_subclass(self):
        self.assertEqual(QueueError.__bases__, (ValueError,))
        for name in FIELDS:
            self.assertEqual(getattr(errors, name).__bases__, (QueueError,), name)
            self.assertEqual(getattr(errors, name).__module__, "rowqueue.errors")

    def test_fields_are_the_very_objects(self):
        things = [None, True, 0, -7, 10**60, "", "a\n", b"x", [[1], {}], (), {"a": [1]}, {1, 2}, object(), QueueError]
        for name, fields in FIELDS.items():
            for thing in things:
                self.assertEqual(list(vars(made(name, thing))), fields, name)
                for field in fields:
                    self.assertIs(getattr(made(name, thing), field), thing)

    def test_what_was_passed_in_stays(self):
        for name in FIELDS:
            thing = [1, [2, {"a": 3}]]
            made(name, thing)
            self.assertEqual(thing, [1, [2, {"a": 3}]])

    def test_fields_may_be_passed_by_their_names(self):
        for name, fields in FIELDS.items():
            for field in fields:
                error = getattr(errors, name)(**{field: 5})
                self.assertEqual(getattr(error, field), 5)

    def test_the_base_is_made_from_any_value_and_has_no_fields(self):
        for thing in [None, 3, "text", [1], {"a": 1}, object()]:
            self.assertEqual(vars(QueueError(thing)), {})
        self.assertEqual(vars(QueueError()), {})

    def test_caught_as_the_base_and_as_value_error_and_as_no_other(self):
        for name in FIELDS:
            with self.assertRaises(QueueError):
                raise made(name)
            with self.assertRaises(ValueError):
                raise made(name)
            for other in FIELDS:
                if other != name:
                    self.assertNotIsInstance(made(name), getattr(errors, other))


if __name__ == "__main__":
    unittest.main()
