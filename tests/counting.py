"""[72] again, over the second machine: what a count counts.

The greatest numbers are found by going on until nothing grows any more.
"""


class Counting:
    def __init__(self, search, count):
        self.search, self.oracle = search, search.oracle
        self.word, self.row = count

    def is_free(self, state):
        self.oracle.load(state)
        return self.oracle.is_free(self.row)

    def is_held_up(self, state):
        if not self.oracle.prompt:
            return False
        idle = any(not hand for hand in state[1]) and self.oracle.chosen_in(state) is not None
        return idle or any(hand and not hand[2] for hand in state[1])

    def has_effect(self, state):
        return state[0][self.row][3] >= 1

    def may_follow(self, state, after):
        if self.word == "takes":
            return True
        if self.word == "gap":
            return self.has_effect(state)
        return self.is_free(state) and self.is_free(after)

    def worth(self, state, deed, answer):
        if self.word == "takes":
            return int(f"take {self.row}" in answer)
        if self.word == "passed":
            return int(answer[:1] != (f"take {self.row}",) and answer[:1] in [(f"take {r}",) for r in range(4)])
        return int(deed[0] == "tick" and not self.is_held_up(state))

    def is_begin(self, weaving):
        """Whether counting may begin behind a weaving."""
        state = self.search.end_of(weaving)
        if self.word == "takes":
            return weaving == []
        if self.word == "gap":
            return bool(weaving) and self.has_effect(state) and not self.has_effect(self.search.end_of(weaving[:-1]))
        return self.is_free(state)

    def ends(self, state, answer):
        """Whether a move that may follow ends the count."""
        return self.word == "gap" and (f"effect {self.row}" in answer or f"again {self.row}" in answer)

    def go(self, state, deeds):
        """Go on from a state: the last state, the number, whether all may follow, and whether it may end there."""
        number = 0
        good = True
        end = self.word == "takes" or (self.word != "gap" and self.is_free(state))
        for deed in deeds:
            after, answer = self.oracle.step(state, deed)
            good = good and self.may_follow(state, after)
            number += self.worth(state, deed, answer)
            end = self.word != "gap" or self.ends(state, answer)
            state = after
        return state, number, good, end

    def arcs(self):
        """Tuples (state, worth, state after), of the moves that may follow, and the states where counting may end."""
        found, ends = [], {}
        for state, moves in self.search.moves.items():
            if self.word == "takes" or (self.word != "gap" and self.is_free(state)):
                ends[state] = 0
            for deed, answer, after in moves:
                if self.may_follow(state, after):
                    found.append((state, self.worth(state, deed, answer), after))
                    if self.ends(state, answer):
                        ends[state] = 0
        return found, ends

    def marks(self):
        """For each state the greatest number to an end, or None; None in its place if one has no bound."""
        arcs, ends = self.arcs()
        marks = dict.fromkeys(self.search.moves) | ends
        grown = True
        while grown:
            grown = False
            for state, worth, after in reversed(arcs):
                if marks[after] is not None and (marks[state] is None or marks[state] < marks[after] + worth):
                    marks[state] = marks[after] + worth
                    grown = True
                    if marks[state] > len(marks):
                        return None
        return marks

    def begins(self):
        """All states in which counting begins."""
        if self.word == "takes":
            return [self.search.states()[0]]
        if self.word != "gap":
            return [state for state in self.search.moves if self.is_free(state)]
        moves = [(state, after) for state in self.search.moves for _, _, after in self.search.moves[state]]
        return [after for state, after in moves if self.has_effect(after) and not self.has_effect(state)]

    def is_bounded(self, number, thing):
        """[74] again, for a list of tuples of states and integers or None."""
        marks = dict(thing)
        if len(marks) < len(thing) or self.search.states()[0] not in marks:
            return False
        rules = []
        for state, mark in thing:
            free = self.word in ("takes", "gap") or self.is_free(state)
            rules.append(free or mark is None)
            rules.append(not (free and self.word != "gap" and mark is None))
            first = self.word == "takes" and state == self.search.states()[0]
            if first or (self.word in ("passed", "waits") and free):
                rules.append(mark is None or (number is not None and mark <= number))
            for deed in self.search.deeds:
                after, answer = self.oracle.step(state, deed)
                if after not in marks:
                    return False
                rules.append(self.move_is_bounded(number, marks, state, (deed, answer, after)))
        return all(rules)

    def move_is_bounded(self, number, marks, state, move):
        deed, answer, after = move
        mark = marks[state]
        if self.word == "gap" and self.has_effect(after) and not self.has_effect(state):
            if marks[after] is not None and (number is None or marks[after] > number):
                return False
        if not self.may_follow(state, after):
            return True
        if self.ends(state, answer) and mark is None:
            return False
        return marks[after] is None or (mark is not None and mark >= marks[after] + self.worth(state, deed, answer))

    def is_turn(self, weaving, begin, turn, rest):
        """[73] again, for lists of deeds and an integer."""
        if not 0 <= begin <= len(weaving) or not self.is_begin(weaving[:begin]):
            return False
        last = self.search.end_of(weaving)
        _, _, good, _ = self.go(self.search.end_of(weaving[:begin]), weaving[begin:])
        back, number, good_turn, _ = self.go(last, turn)
        _, _, good_rest, end = self.go(last, rest)
        return good and good_turn and good_rest and end and back == last and number > 0
