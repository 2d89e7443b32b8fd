"""The least closed rows, found by following all calls of outsiders.

The rows, the calls that begin in a state, and the questions are nodes that
gather states and hand them on to each other until nothing new turns up. All
that is found this way belongs to the least closed rows, so that a limit that
is passed underway is passed by the least closed rows, too.
"""

from nestcall.errors import TooLarge
from nestcall.program import Program
from nestcall.running import MOST_WAYS, begin, go_on
from nestcall.state import first_state

MOST_STATES = 200


class Node:
    """Gathers the states at the ends of the calls that begin in one state.

    `readers` is a dict from the nodes that take over all these states to the
    number of ways in which they come here.
    """

    def __init__(self):
        self.states = {}
        self.readers = {}


class Row(Node):
    """Gathers the states of a row; `questions` are pairs of a Branch and a Stop that leave one of them behind."""

    def __init__(self):
        Node.__init__(self)
        self.questions = []


class Branch(Node):
    """Gathers the ends of a call behind a question, and counts the `ways` to go on there.

    There is one for each state and place of a question, and one for each state
    that is left behind at such a place, since different questions may leave
    the same state behind.
    """

    def __init__(self):
        Node.__init__(self)
        self.ways = 0


class Search:
    """The rows that are found so far, and what is still to be followed."""

    def __init__(self, house):
        self.program = Program(house)
        self.rows = {}
        self.begun = {}
        self.questions = {}
        self.behind = {}
        self.fresh = []
        self.leaving = []

    def follow_all(self, state):
        """Follows all that can happen from the beginning, which is this state."""
        self.row_of(state)
        while len(self.leaving) + len(self.fresh) > 0:
            # Going to the ends of calls first soon finds calls with too many ways.
            if len(self.leaving) > 0:
                question, stop, left = self.leaving.pop()
                self.leave(question, stop, left)
            else:
                node, found = self.fresh.pop()
                self.hand_on(node, found)

    def put(self, node, state):
        """Puts a state into a node, if it is new there."""
        if state not in node.states:
            node.states[state] = True
            self.fresh.append((node, state))

    def hand_on(self, node, state):
        """Does what a state that is new in a node brings about."""
        for reader in list(node.readers):
            self.put(reader, state)
        if isinstance(node, Row):
            self.link(self.calls_at(state), node)
            for question, stop in list(node.questions):
                self.leaving.append((question, stop, state))

    def link(self, node, reader):
        """Makes a node a reader of another one, in one way more than before."""
        node.readers[reader] = node.readers.get(reader, 0) + 1
        if node.readers[reader] == 1:
            for state in list(node.states):
                self.put(reader, state)
        if isinstance(node, Branch):
            count_ways(reader, node.ways)

    def row_of(self, state):
        """The row of a state, which has at first only this state."""
        if state not in self.rows:
            self.rows[state] = Row()
            self.put(self.rows[state], state)
        return self.rows[state]

    def calls_at(self, state):
        """The node of all calls that begin in a state of some row."""
        if state not in self.begun:
            if len(self.begun) == MOST_STATES:
                raise TooLarge("states")
            self.begun[state] = Node()
            for place, number in self.program.calls:
                self.follow(begin(self.program, state, place, number), self.begun[state])
        return self.begun[state]

    def follow(self, stop, node):
        """Takes into a node what comes of a call that has stopped."""
        if stop.answers > 0:
            self.link(self.question_at(stop), node)
            return
        count_ways(node, 1)
        if stop.state is not None:
            self.put(node, stop.state)

    def question_at(self, stop):
        """The node of a question, in the state in which it is asked."""
        key = (stop.frames, stop.state)
        if key not in self.questions:
            question = Branch()
            self.questions[key] = question
            row = self.row_of(stop.state)
            row.questions.append((question, stop))
            for state in row.states:
                self.leaving.append((question, stop, state))
        return self.questions[key]

    def leave(self, question, stop, state):
        """Follows a call behind a question, when a state has been left behind there."""
        key = (stop.frames, state)
        if key not in self.behind:
            self.behind[key] = Branch()
            for answer in range(stop.answers):
                self.follow(go_on(self.program, stop.frames, state, answer), self.behind[key])
        # A state may turn up twice for a question that is new while its row grows.
        if question not in self.behind[key].readers:
            self.link(self.behind[key], question)


def count_ways(start, ways):
    """Counts more ways at a node, if it counts them, and at all its readers. Raises TooLarge."""
    todo = [(start, ways)]
    while len(todo) > 0:
        node, more = todo.pop()
        if more == 0 or not isinstance(node, Branch):
            continue
        node.ways += more
        if node.ways > MOST_WAYS:
            raise TooLarge("ways")
        for reader, times in node.readers.items():
            todo.append((reader, times * more))


def least_rows(house):
    """The least closed rows, as pairs of a state and a list of states. Raises TooLarge."""
    search = Search(house)
    search.follow_all(first_state(house))
    return [(state, list(row.states)) for state, row in search.rows.items()]


def reachable(house):
    """All states that outsiders can bring about while no call is open. Raises TooLarge."""
    return least_rows(house)[0][1]
