"""The judge: whether rows that somebody gives are closed, and what they bound.

It only follows calls through the given rows, and finds no rows by itself.
"""

from nestcall.program import Program
from nestcall.running import MOST_WAYS, begin, go_on
from nestcall.state import first_state, worth


class Judge:
    """Follows calls through rows, a dict from states to dicts whose keys are the states of their rows."""

    def __init__(self, house, rows):
        self.program = Program(house)
        self.rows = rows
        self.behind = {}
        self.found = {}

    def ends(self, state):
        """The states at the ends of all calls that begin in a state, as a list.

        It is None if a call asks in a state without a row, or has too many ways.
        """
        if state not in self.found:
            self.found[state] = self.ends_of_calls(state)
        return self.found[state]

    def ends_of_calls(self, state):
        """The list of `ends`, found by following the calls."""
        ends = {}
        for place, number, _ in self.program.calls:
            if not self.follow(begin(self.program, state, place, number), ends):
                return None
        return list(ends)

    def follow(self, start, ends):
        """Adds the ends of one call to a dict, and tells whether all its ways could be followed."""
        todo = [start]
        ways = 0
        while len(todo) > 0:
            stop = todo.pop()
            if stop.answers == 0:
                ways += 1
                if stop.state is not None:
                    ends[stop.state] = True
                continue
            if stop.state not in self.rows:
                return False
            row = self.rows[stop.state]
            # Each stop that is still to be followed stands for one way at least.
            if ways + len(todo) + len(row) * stop.answers > MOST_WAYS:
                return False
            for state in row:
                todo.extend(self.stops_behind(stop, state))
        return True

    def stops_behind(self, stop, state):
        """Where a call stops next behind a question, for each answer, when a state was left behind."""
        key = (stop.frames, state)
        if key not in self.behind:
            answers = range(stop.answers)
            self.behind[key] = [go_on(self.program, stop.frames, state, answer) for answer in answers]
        return self.behind[key]


def first_rows(pairs):
    """The first row of each state, each as a dict from its states to True."""
    rows = {}
    for state, row in pairs:
        if state not in rows:
            rows[state] = {member: True for member in row}
    return rows


def is_closed(house, pairs):
    """Whether rows are closed."""
    rows = first_rows(pairs)
    if first_state(house) not in rows:
        return False
    judge = Judge(house, rows)
    for state, row in rows.items():
        if state not in row:
            return False
        for member in row:
            ends = judge.ends(member)
            if ends is None or not all([end in row for end in ends]):
                return False
    return True


def bound(house, pairs, prices):
    """The greatest worth in the row of the beginning, or None if the rows are not closed."""
    if not is_closed(house, pairs):
        return None
    row = first_rows(pairs)[first_state(house)]
    return max([worth(state, prices) for state in row])
