"""How often, and how long: the greatest numbers that can be counted."""

from rowqueue.counts import Count
from rowqueue.kinds import is_integer
from rowqueue.machine import is_state, is_weaving, start, step
from rowqueue.paths import knots, path_to
from rowqueue.webs import are_closed, explored


def at_most(scene, count, *, most=1000):
    """Return the greatest number that can be counted, or how it grows for ever."""
    meeting, moves = explored(scene, scene.deeds(), most)
    rule = Count(scene, count)
    arcs = [_arcs_from(rule, meeting, moves, at) for at in range(len(moves))]
    ends = [_end_at(rule, meeting, moves, at) for at in range(len(moves))]
    marks, growing = _marks(arcs, ends)
    if growing is not None:
        return _ever(scene, rule, meeting, arcs, ends, growing)
    table = sorted([(state, marks[at]) for at, state in enumerate(meeting.met)])
    begins = [begin for begin in _begins(rule, meeting, moves) if marks[begin[0]] is not None]
    if not begins:
        return ("none", table)
    number = max([marks[at] for at, _ in begins])
    at, weaving = [begin for begin in begins if marks[begin[0]] == number][0]
    return ("most", number, weaving + _best_path(arcs, ends, marks, at), len(weaving), table)


def _arcs_from(rule, meeting, moves, at):
    """Return the arcs of the moves that may follow from a state."""
    state = meeting.met[at]
    if not rule.goes_on_in(state):
        return []
    on = [move for move in moves[at] if rule.goes_on_in(meeting.met[move[2]])]
    return [(deed, rule.worth(state, deed, answer), target) for deed, answer, target in on]


def _end_at(rule, meeting, moves, at):
    """Return the deeds with which counting may end at once in a state, or None."""
    state = meeting.met[at]
    if rule.ends_in(state):
        return []
    enders = [[deed] for deed, answer, _ in moves[at] if rule.ends_by(state, answer)]
    return enders[0] if enders else None


def _marks(arcs, ends):
    """Return what can be counted from each state to an end, or None, and an arc by which it grows for ever, or None.

    Such an arc is a tuple (source, deed, target).
    """
    marks = [None] * len(arcs)
    for knot in reversed(knots([[target for _, _, target in row] for row in arcs])):
        tied = {at: True for at in knot}
        rows = [(at, arc) for at in knot for arc in arcs[at]]
        numbers = [0 for at in knot if ends[at] is not None]
        numbers.extend([arc[1] + marks[arc[2]] for _, arc in rows if marks[arc[2]] is not None])
        if not numbers:
            continue
        growing = [(at, deed, target) for at, (deed, worth, target) in rows if target in tied and worth > 0]
        if growing:
            return (marks, growing[0])
        for at in knot:
            marks[at] = max(numbers)
    return (marks, None)


def _begins(rule, meeting, moves):
    """Return tuples of a state's number and a weaving to it, with which counting may begin there."""
    found = [(at, meeting.weaving_to(at)) for at, state in enumerate(meeting.met) if rule.begins_in(state)]
    for at, state in enumerate(meeting.met):
        for deed, _, target in moves[at]:
            if rule.begins_behind(state, meeting.met[target]):
                found.append((target, meeting.weaving_to(at) + [deed]))
    return found


def _best_path(arcs, ends, marks, first):
    """Return deeds that count as much as the mark of a state says, to an end."""
    best = []
    for at, row in enumerate(arcs):
        on = [arc for arc in row if marks[arc[2]] is not None]
        best.append([arc for arc in on if arc[1] + marks[arc[2]] == marks[at]])
    goals = [end is not None and marks[at] == 0 for at, end in enumerate(ends)]
    deeds, last = path_to(best, first, goals)
    return deeds + ends[last]


def _ever(scene, rule, meeting, arcs, ends, growing):
    """Return how the number grows for ever by an arc that leads back to its source."""
    source, deed, target = growing
    weaving = meeting.weaving_to(source)
    states, _ = _walk(scene, start(scene), weaving)
    back, _ = path_to(arcs, target, [at == source for at in range(len(arcs))])
    rest, last = path_to(arcs, source, [end is not None for end in ends])
    return ("ever", weaving, rule.begin_of(states), [deed] + back, rest + ends[last])


def _walk(scene, first, weaving):
    """Return the states that deeds lead to from a first one, itself included, and the answers."""
    states = [first]
    answers = []
    for deed in weaving:
        state, answer = step(scene, states[-1], deed)
        states.append(state)
        answers.append(answer)
    return (states, answers)


def is_bounded(scene, count, number, thing):
    """Return whether any value is a list of tuples (state, mark) that shows that no more than a number is counted."""
    if not isinstance(thing, list) or not all([_is_marked(scene, item) for item in thing]):
        return False
    marks = {state: mark for state, mark in thing}
    if len(marks) < len(thing) or start(scene) not in marks or not are_closed(scene, list(marks), scene.deeds()):
        return False
    rule = Count(scene, count)
    return all([_is_mark(scene, rule, number, marks, state) for state in marks])


def _is_marked(scene, thing):
    if not isinstance(thing, tuple) or len(thing) != 2 or not is_state(scene, thing[0]):
        return False
    return thing[1] is None or (is_integer(thing[1]) and thing[1] >= 0)


def _is_mark(scene, rule, number, marks, state):
    """Return whether a state has its mark among the marks of the states."""
    mark = marks[state]
    if rule.is_of_free_rows() and not rule.goes_on_in(state):
        return mark is None
    if rule.begins_in(state) and not _is_within(mark, number):
        return False
    if rule.ends_in(state) and mark is None:
        return False
    return all([_bounds_move(scene, rule, number, marks, state, deed) for deed in scene.deeds()])


def _bounds_move(scene, rule, number, marks, state, deed):
    after, answer = step(scene, state, deed)
    mark = marks[state]
    if rule.begins_behind(state, after) and not _is_within(marks[after], number):
        return False
    if rule.ends_by(state, answer) and mark is None:
        return False
    if not rule.goes_on_in(state) or not rule.goes_on_in(after) or marks[after] is None:
        return True
    return mark is not None and mark >= marks[after] + rule.worth(state, deed, answer)


def _is_within(mark, number):
    return mark is None or (number is not None and mark <= number)


def is_turn(scene, count, weaving, begin, turn, rest):
    """Return whether any values show that a count has no bound."""
    if not all([is_weaving(scene, deeds) for deeds in (weaving, turn, rest)]):
        return False
    if not is_integer(begin) or not 0 <= begin <= len(weaving):
        return False
    rule = Count(scene, count)
    states, _ = _walk(scene, start(scene), weaving)
    last = states[-1]
    around, answers = _walk(scene, last, turn)
    if not rule.begins_at(states, begin) or around[-1] != last:
        return False
    if not all([rule.goes_on_in(state) for state in states[begin:] + around]):
        return False
    worths = [rule.worth(around[at], deed, answers[at]) for at, deed in enumerate(turn)]
    return sum(worths) > 0 and _is_rest(scene, rule, last, rest)


def _is_rest(scene, rule, first, rest):
    """Return whether deeds lead from a state to an end."""
    states, answers = _walk(scene, first, rest)
    if not all([rule.goes_on_in(state) for state in states]):
        return False
    return rule.ends_in(states[-1]) or (len(rest) > 0 and rule.ends_by(states[-2], answers[-1]))
