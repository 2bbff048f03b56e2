"""Rounds: deeds that are done again and again, for ever."""

from rowqueue.errors import TooMany
from rowqueue.machine import step


def round_of(scene, state, turn, *, most=1000):
    """Return after how many rounds a state stands that comes again, and after how many more it does."""
    states, _, lead = _circle(scene, state, turn, most)
    return (lead, len(states) - lead)


def state_after(scene, state, turn, times, *, most=1000):
    """Return the state after so many rounds."""
    states, _, lead = _circle(scene, state, turn, most)
    if times < len(states):
        return states[times]
    return states[lead + (times - lead) % (len(states) - lead)]


def answers(scene, state, turn, times, *, most=1000):
    """Return the tuples (word, number) of the strings in the answers of so many rounds."""
    states, told, lead = _circle(scene, state, turn, most)
    totals = {}
    for at, words in enumerate(told):
        comings = _comings(at, lead, len(states) - lead, times)
        for word in words:
            totals[word] = totals.get(word, 0) + comings
    return sorted([(word, number) for word, number in totals.items() if number > 0])


def _circle(scene, state, turn, most):
    """Return the states ahead of all different rounds, the strings of their answers, and the index that comes again."""
    numbers = {}
    told = []
    ahead = state
    while ahead not in numbers:
        if len(numbers) == most:
            raise TooMany(most)
        numbers[ahead] = len(numbers)
        ahead, words = _gone_round(scene, ahead, turn)
        told.append(words)
    return (list(numbers), told, numbers[ahead])


def _gone_round(scene, state, turn):
    """Return the state after one round, and the strings of its answers."""
    words = []
    after = state
    for deed in turn:
        after, answer = step(scene, after, deed)
        words.extend(answer)
    return (after, words)


def _comings(at, lead, length, times):
    """Return how often the round with this index is among so many rounds."""
    if times <= at:
        return 0
    if at < lead:
        return 1
    return (times - 1 - at) // length + 1
