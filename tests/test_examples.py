"""The examples of [23], [31] and [44], as they stand."""

import unittest

from tests.examples import failures_of

SETTINGS = """
>>> from rowqueue.settings import Setting
>>> setting = Setting(['fence no', 'hold 3', 'plan take check+effect finish'])
>>> [setting, setting.hold, setting.fence, setting.plan(), 'skip yes' in setting, len(setting)]
[Setting(['hold 3', 'plan take check+effect finish', 'fence no']), 3, False, [('take',), ('check', 'effect'), ('finish',)], True, 3]
>>> [setting.changed('hold 2', 'slow 1').lines()[2:5], setting.apart(Setting(['hold 3']))]
[['hold 2', 'margin 0', 'slow 1'], ['plan', 'fence']]
"""

BAD_SETTING = """
>>> from rowqueue.settings import Setting
>>> Setting(['hold 3', 'hold 4'])
raises BadLine(1)
"""

CHOICE = """
>>> from rowqueue.choice import batch, chosen, ordered
>>> from rowqueue.settings import Setting
>>> rows = [('a', 1, 'here'), ('a', 9, 'here'), ('b', 5, 'here')]
>>> key, still = Setting(['order key']), Setting(['order key', 'skip no'])
>>> [ordered(rows, 'weight'), batch(rows, key, ['free', 'free', 'free'], 3), batch(rows, still, ['free', 'free', 'free'], 3)]
[[1, 2, 0], [0, 2], [0]]
>>> [chosen(rows, key, ['busy', 'free', 'free']), chosen(rows, still, ['busy', 'free', 'free'])]
[2, None]
"""

MACHINE = """
>>> from rowqueue.machine import play
>>> from rowqueue.scenes import Scene
>>> from rowqueue.settings import Setting
>>> scene = Scene(Setting(), [('a', 0, 'here')])
>>> state, answers = play(scene, [('part', 0), ('part', 0), ('tick',), ('tick',), ('part', 1), ('part', 0), ('part', 1)])
>>> answers
[('take 0',), ('effect 0',), (), (), ('take 0',), ('stale',), ('effect 0',)]
>>> state
((('held', 2, 0, 2, 0),), ((), (2, 0, True, 0, 0)))
"""


class Examples(unittest.TestCase):
    def test_settings(self):
        self.assertEqual(failures_of(SETTINGS), [])
        self.assertEqual(failures_of(BAD_SETTING), [])

    def test_choice(self):
        self.assertEqual(failures_of(CHOICE), [])

    def test_machine(self):
        self.assertEqual(failures_of(MACHINE), [])

    def test_a_failure_is_seen(self):
        self.assertEqual(failures_of(">>> 1 + 1\n3\n"), [(">>> 1 + 1", "3", "2")])
        self.assertEqual(len(failures_of(BAD_SETTING.replace("(1)", "(0)"))), 1)


if __name__ == "__main__":
    unittest.main()
