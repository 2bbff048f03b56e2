"""What many tests share: scenes of few words, and errors with their fields."""

import unittest

from rowqueue.errors import QueueError, TooMany
from rowqueue.scenes import Scene
from rowqueue.settings import Setting
from tests.oracle import Oracle

ONE = [("a", 0, "here")]


def scene_of(*lines, rows=ONE, workers=1, may=(), prompt=False):
    return Scene(Setting(list(lines)), list(rows), workers=workers, may=may, prompt=prompt)


def oracle_of(scene):
    """The second machine of a scene."""
    return Oracle(scene.setting.lines(), scene.rows(), scene.workers, scene.may, scene.prompt)


class Case(unittest.TestCase):
    def refuses(self, wanted, fields, function, *things, **named):
        """The call raises an error of this very class, with these values in its fields."""
        with self.assertRaises(wanted) as caught:
            function(*things, **named)
        self.assertIs(type(caught.exception), wanted)
        self.assertIsInstance(caught.exception, QueueError)
        self.assertEqual(list(vars(caught.exception).values()), fields)

    def too_many(self, most, function, *things):
        with self.assertRaises(TooMany) as caught:
            function(*things, most=most)
        self.assertIs(type(caught.exception), TooMany)
        self.assertIsInstance(caught.exception, QueueError)
        self.assertEqual(vars(caught.exception), {"limit": most})
