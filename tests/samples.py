"""Scenes, weavings and states that are drawn by lot, from a seed: the same in each run."""

from rowqueue.scenes import Scene
from rowqueue.settings import Setting
from tests.oracle import Oracle
from tests.test_plans import all_plans
from tests.test_settings import VALUES

PLANS = [" ".join("+".join(words) for words in plan) for plan in all_plans()]
ACCIDENTS = ["crash", "fail", "give", "more"]


def lines_by_lot(chance):
    lines = [f"{word} {chance.choice(values)}" for word, values in VALUES.items() if chance.random() < 0.6]
    return lines + [f"plan {chance.choice(PLANS)}"] * (chance.random() < 0.8)


def rows_by_lot(chance, most=4):
    """Rows that a scene accepts."""
    rows = []
    closed = []
    for at in range(chance.randint(1, most)):
        key = chance.choice([name for name in "abcde" if name not in closed])
        origin = chance.choice(["here", "here", "late", *range(at)])
        if origin != "here":
            closed.append(key)
        rows.append((key, chance.randrange(3), origin))
    return rows


def scene_by_lot(chance, most=4, prompts=0.3):
    """A scene and the oracle of the same scene."""
    lines = lines_by_lot(chance)
    rows = rows_by_lot(chance, most)
    workers = chance.randint(1, 3)
    may = tuple(word for word in ACCIDENTS if chance.random() < 0.6)
    prompt = chance.random() < prompts
    scene = Scene(Setting(lines), rows, workers=workers, may=may, prompt=prompt)
    return scene, Oracle(lines, rows, workers, may, prompt)


def state_by_lot(chance, oracle):
    """A state of the scene, reached or not."""
    rows = tuple(row_by_lot(chance, oracle) for _ in oracle.scene_rows)
    hands = []
    sure = []
    for _ in range(oracle.many):
        hand = hand_by_lot(chance, oracle, rows, sure)
        hands.append(hand)
        sure.extend([hand[1]] if hand and hand[2] else [])
    return rows, tuple(hands)


def row_by_lot(chance, oracle):
    place = chance.choice(["yet", "ready", "held", "held", "done", "dead"])
    ticks = 0
    if place == "ready":
        ticks = chance.choice([0, chance.randint(0, oracle.pauses[-1])])
    if place == "held" and oracle.timed:
        ticks = chance.randint(1, oracle.hold)
    once = oracle.line["once"]
    memory = chance.randint(0, int(once)) if once.isdigit() else 0
    return place, ticks, chance.randint(0, oracle.cap), chance.randint(0, 2), memory


def hand_by_lot(chance, oracle, rows, sure):
    if chance.random() < 0.25:
        return ()
    point = chance.randint(1, len(oracle.plan) - 1)
    r = chance.randrange(len(rows))
    fresh = rows[r][0] == "held" and r not in sure and chance.random() < 0.7
    own = lag = 0
    if oracle.timed and oracle.when("check") >= point:
        own = chance.randint(0, oracle.trust + oracle.slow)
        if own:
            lag = chance.randint(0, min(oracle.slow, oracle.trust + oracle.slow - own))
    return point, r, fresh, own, lag


def deeds_by_lot(chance, deeds, many):
    """Deeds of which parts and ticks come more often, so that work gets done."""
    weights = [4 if deed[0] in ("part", "tick", "put") else 1 for deed in deeds]
    return chance.choices(deeds, weights=weights, k=many)
