"""The examples of the document, as they stand."""

import unittest

from tests.examples import failures_of

SETTINGS = """
>>> from rowqueue.settings import Setting
>>> setting = Setting(['fence no', 'hold 3', 'plan take check+effect finish'])
>>> [setting, setting.hold, setting.fence, setting.plan(), 'skip yes' in setting, len(setting)]
[Setting(['hold 3', 'plan take check+effect finish', 'fence no']), 3, False, [('take',), ('check', 'effect'), ('finish',)], True, 3]
>>> [setting.changed('hold 2', 'slow 1').lines()[2:5], setting.apart(Setting(['hold 3']))]
[['hold 2', 'margin 0', 'slow 1'], ['plan', 'fence']]
"""

BAD_SETTING = """
>>> from rowqueue.settings import Setting
>>> Setting(['hold 3', 'hold 4'])
raises BadLine(1)
"""

CHOICE = """
>>> from rowqueue.choice import batch, chosen, ordered
>>> from rowqueue.settings import Setting
>>> rows = [('a', 1, 'here'), ('a', 9, 'here'), ('b', 5, 'here')]
>>> key, still = Setting(['order key']), Setting(['order key', 'skip no'])
>>> [ordered(rows, 'weight'), batch(rows, key, ['free', 'free', 'free'], 3), batch(rows, still, ['free', 'free', 'free'], 3)]
[[1, 2, 0], [0, 2], [0]]
>>> [chosen(rows, key, ['busy', 'free', 'free']), chosen(rows, still, ['busy', 'free', 'free'])]
[2, None]
"""

MACHINE = """
>>> from rowqueue.machine import play
>>> from rowqueue.scenes import Scene
>>> from rowqueue.settings import Setting
>>> scene = Scene(Setting(), [('a', 0, 'here')])
>>> state, answers = play(scene, [('part', 0), ('part', 0), ('tick',), ('tick',), ('part', 1), ('part', 0), ('part', 1)])
>>> answers
[('take 0',), ('effect 0',), (), (), ('take 0',), ('stale',), ('effect 0',)]
>>> state
((('held', 2, 0, 2, 0),), ((), (2, 0, True, 0, 0)))
"""

QUEUE = """
>>> from rowqueue.queue import Queue
>>> from rowqueue.settings import Setting
>>> queue = Queue(Setting(['hold 3', 'tries 2', 'pause 3']))
>>> first = queue.do(10, [('put', 'a', 'k', 0, 0, None), ('put', 'b', 'k', 5, 0, None), ('take', 1)])
>>> [first[2], queue.row('a'), queue.free(8), queue.next_time()]
[[('a', 1)], ('held', 13, 1, 1, 0), ['b'], 13]
>>> second = queue.do(20, [('take', 2)])
>>> [second, queue.row('a'), queue.do(30, [('take', 1)]), queue.row('a')]
[[[('a', 2), ('b', 1)]], ('held', 23, 2, 2, 0), [[('b', 2)]], ('dead', None, 2, 2, 0)]
"""

# "In the examples from here on, Scene and Setting are imported as in [44], and rows is [('a', 0, 'here')]."
FROM_HERE_ON = """
>>> from rowqueue.scenes import Scene
>>> from rowqueue.settings import Setting
>>> rows = [('a', 0, 'here')]
"""

SAFETY = """
>>> from rowqueue.safety import check
>>> check(Scene(Setting(), rows), 'twice')
('breaks', [('part', 0), ('part', 0), ('tick',), ('tick',), ('part', 1), ('part', 1)])
>>> [check(Scene(Setting(), rows), 'two'), check(Scene(Setting(['plan take effect+finish']), rows), 'twice')[0]]
[('breaks', [('part', 0), ('tick',), ('tick',), ('part', 1)]), 'holds']
"""

FORMS = """
>>> from rowqueue.forms import shortest
>>> [shortest(Scene(Setting(), rows), 'twice'), shortest(Scene(Setting(['plan take check+effect finish']), rows), 'two'), shortest(Scene(Setting(['plan take check+effect finish', 'slow 1']), rows), 'two')]
[6, None, 5]
>>> [shortest(Scene(Setting(['plan take check effect finish']), rows), 'two'), shortest(Scene(Setting(['plan take effect+finish', 'fence no']), rows), 'twice')]
[5, 6]
"""

COMING = """
>>> from rowqueue.coming import can_come
>>> can_come(Scene(Setting(['hold ever']), rows, workers=1, may=('crash',)), 'settled')
('breaks', [('part', 0), ('crash', 0)], [((('held', 0, 0, 0, 0),), ((),))])
"""

BOUNDS = """
>>> from rowqueue.bounds import at_most
>>> one = Scene(Setting(['hold 1', 'tries 2']), rows, workers=1)
>>> at_most(one, ('takes', 0))[:2]
('most', 2)
"""

MEMORY = """
>>> from rowqueue.memory import least_once
>>> least_once(Scene(Setting(['tries 2']), rows, workers=1, prompt=True), 0)
5
"""

ALIKE = """
>>> from rowqueue.alike import compare, deeds_of, least
>>> one = Scene(Setting(['hold ever']), rows, workers=1)
>>> least(one, deeds_of(one, one))
[[(('take 0',), 1), ((), 0)], [(('effect 0',), 2), ((), 1)], [(('finish 0',), 3), ((), 2)], [(('nothing',), 3), ((), 3)]]
>>> compare(Scene(Setting(['hold 1']), rows), Scene(Setting(['hold 1', 'fence no']), rows))
('parted', [('part', 0), ('part', 0), ('tick',), ('part', 0)], (('stale',), ('finish 0',)))
"""

CHANGES = """
>>> from rowqueue.changes import choices, least_change
>>> offers = ['once ever', 'plan take effect+finish', 'once 3']
>>> [choices(offers), least_change(Scene(Setting(), rows), offers, ['twice'])[1]]
[[[], [0], [1], [2], [0, 1], [1, 2]], [0]]
"""

SEEN = """
>>> from rowqueue.seen import count, numbered, possible
>>> scene = Scene(Setting(['tries 1']), rows, workers=1)
>>> log = [('take 0',), ('dead 0',)]
>>> [possible(scene, log)[:2], possible(scene, [('finish 0',)])[:2]]
[('possible', [('part', 0), ('tick',), ('tick',)]), ('impossible', 0)]
>>> [count(scene, log, 2), count(scene, log, 3), count(scene, log, 4), numbered(scene, log, 4, 1)]
[0, 1, 2, [('tick',), ('part', 0), ('tick',), ('tick',)]]
"""

ROUNDS = """
>>> from rowqueue.machine import start
>>> from rowqueue.rounds import answers, round_of
>>> scene, turn = Scene(Setting(), rows, workers=1), [('part', 0), ('tick',), ('tick',)]
>>> [round_of(scene, start(scene), turn), answers(scene, start(scene), turn, 9)]
[(5, 3), [('effect 0', 3), ('stale', 3), ('take 0', 3)]]
"""

LANES = """
>>> from rowqueue.lanes import Lane
>>> one, other = Lane((3, 2), (1, 4)), Lane((1, 4), (3, 2))
>>> [one, one(5), other, other(5), other.repeated(2)(5), one * other]
[Lane(0, -2), 3, Lane(1, -2), 3, 1, Lane(1, -4)]
"""

CHAINS = """
>>> from rowqueue.chains import Ends
>>> [Ends([0, 1]) * Ends([1, 2]), Ends([2]) * Ends([0, 1]), Ends([0, 2]).kept(), Ends([2]) * Ends([1])]
[Ends([0, 1, 2]), Ends([0, 1, 2]), Ends([0, 1]), Ends([2])]
>>> [Ends([0, 1]).repeated(3), Ends([]) * Ends([1]), Ends([0]) * Ends([]), 1 in Ends([1]), True in Ends([1])]
[Ends([0, 1]), Ends([]), Ends([0]), True, False]
"""

COPIES = """
>>> from rowqueue.copies import Reading, check
>>> check(Reading(Scene(Setting(['fence no']), rows), False), 'two')
('breaks', [('part', 0), ('part', 1), ('part', 0), ('part', 1)])
"""


class Examples(unittest.TestCase):
    def test_settings(self):
        self.assertEqual(failures_of(SETTINGS), [])
        self.assertEqual(failures_of(BAD_SETTING), [])

    def test_choice(self):
        self.assertEqual(failures_of(CHOICE), [])

    def test_machine(self):
        self.assertEqual(failures_of(MACHINE), [])

    def test_queue(self):
        self.assertEqual(failures_of(QUEUE), [])

    def test_the_examples_from_there_on(self):
        later = [SAFETY, FORMS, COMING, BOUNDS, MEMORY, ALIKE, CHANGES, SEEN, ROUNDS, LANES, CHAINS, COPIES]
        for text in later:
            self.assertEqual(failures_of(FROM_HERE_ON.rstrip() + text), [])

    def test_a_failure_is_seen(self):
        self.assertEqual(failures_of(">>> 1 + 1\n3\n"), [(">>> 1 + 1", "3", "2")])
        self.assertEqual(len(failures_of(BAD_SETTING.replace("(1)", "(0)"))), 1)


if __name__ == "__main__":
    unittest.main()
