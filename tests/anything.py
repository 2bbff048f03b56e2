"""Values of all kinds, for parameters that accept any value."""

from rowqueue.settings import Setting

DEEP = ()
for _ in range(15):
    DEEP = (DEEP,)
DEEP_LIST = []
for _ in range(15):
    DEEP_LIST = [DEEP_LIST]

THINGS = [None, True, False, 0, 1, -1, 10**50, "", "a", "tick", "breaks", b"", b"tick", [], (), {}, set(), frozenset()]
THINGS += [[None], [()], [[]], [{}], [set()], [0], [True], ["tick"], [("tick",)], [("tick", 0)], [["tick"]]]
THINGS += [((),), ([], [])]
THINGS += [{"a": 1}, {"a"}, {(): ()}, frozenset([1]), object(), object, len, Setting(), [Setting()], Setting, range(3)]
THINGS += [DEEP, DEEP_LIST, [DEEP], ((DEEP_LIST[0],), (DEEP[0],)), [("part", True)], [("part", 0, 0)], [("part", [])]]
THINGS += [[((), ())], [(((),), ((),))], [((("ready", 0, 0, 0, 0),), ((), ()))], [None] * 89000, (0,) * 89000]
THINGS += [[("tick",)] * 40000, "x" * 89000, [[("ready", 0, 0, 0, 0)]] * 14000, [{}] * 40000]
