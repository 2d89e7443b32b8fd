"""The least closed rows, found by following all calls of outsiders.

The rows, the calls that begin in a state, and the questions are nodes that
gather states and hand them on to each other until nothing new turns up. All
that is found this way belongs to the least closed rows, so that a limit that
is passed underway is passed by the least closed rows, too.
"""

from nestcall.errors import TooLarge
from nestcall.program import Program
from nestcall.running import MOST_WAYS, begin, go_on
from nestcall.state import first_state

MOST_STATES = 200


class Node:
    """Gathers the states at the ends of the calls that begin in one state.

    Numbers stand for states: `at` is the state in which outsiders act,
    `members` has a bit for each state that is gathered, and `fresh` has those
    that are not yet handed on. `readers` is a dict from the nodes that take
    over all these states to the number of ways in which they come here.
    What outsiders can do there is told by two dicts, each with the first act
    that leads to its key: `asking` has the nodes of questions, `ending` the
    states at which a call ends at once.
    """

    def __init__(self, at):
        self.at = at
        self.members = 0
        self.fresh = 0
        self.readers = {}
        self.asking = {}
        self.ending = {}


class Row(Node):
    """Gathers the states of a row; `questions` are those that leave one of them behind."""

    def __init__(self, at):
        Node.__init__(self, at)
        self.questions = []


class Branch(Node):
    """Gathers the ends of a call behind a question, and counts the `ways` to go on there.

    There is one for each state and place of a question, and one for each state
    that is left behind at such a place, since different questions may leave
    the same state behind.
    """

    def __init__(self, at):
        Node.__init__(self, at)
        self.ways = 0


class Question(Branch):
    """A question in the state in which it is asked.

    `behind` is a dict from the states that are left behind to their branches;
    all questions at the place of the stop share it.
    """

    def __init__(self, at, stop, behind):
        Branch.__init__(self, at)
        self.stop = stop
        self.behind = behind


class Search:
    """The rows that are found so far, and what is still to be followed.

    `states` are all states by their numbers, `numbers` the numbers of all
    states, and the keys of `rows` and of `begun` are numbers.
    """

    def __init__(self, house):
        self.program = Program(house)
        self.states = []
        self.numbers = {}
        self.rows = {}
        self.begun = {}
        self.questions = {}
        self.behind = {}
        self.waiting = []
        self.leaving = []

    def follow_all(self, state):
        """Follows all that can happen from the beginning, which is this state."""
        self.row_of(self.number_of_state(state))
        while len(self.leaving) + len(self.waiting) > 0:
            # Going to the ends of calls first soon finds calls with too many ways.
            if len(self.leaving) > 0:
                question, number = self.leaving.pop()
                self.leave(question, number)
            else:
                self.hand_on(self.waiting.pop())

    def number_of_state(self, state):
        """The number of a state of some row."""
        if state not in self.numbers:
            if len(self.states) == MOST_STATES:
                raise TooLarge("states")
            self.numbers[state] = len(self.states)
            self.states.append(state)
        return self.numbers[state]

    def put(self, node, members):
        """Puts states into a node, if they are new there."""
        fresh = members & ~node.members
        if fresh == 0:
            return
        if node.fresh == 0:
            self.waiting.append(node)
        node.members |= fresh
        node.fresh |= fresh

    def hand_on(self, node):
        """Does what the states that are new in a node bring about."""
        fresh = node.fresh
        node.fresh = 0
        for reader in node.readers:
            self.put(reader, fresh)
        if isinstance(node, Row):
            for number in numbers_in(fresh):
                self.link(self.calls_at(number), node)
                for question in node.questions:
                    self.leaving.append((question, number))

    def link(self, node, reader):
        """Makes a node a reader of another one, in one way more than before."""
        node.readers[reader] = node.readers.get(reader, 0) + 1
        self.put(reader, node.members)
        if isinstance(node, Branch):
            count_ways(reader, node.ways)

    def row_of(self, number):
        """The row of a state, which has at first only this state."""
        if number not in self.rows:
            self.rows[number] = Row(number)
            self.put(self.rows[number], 1 << number)
        return self.rows[number]

    def calls_at(self, number):
        """The node of all calls that begin in a state of some row."""
        if number not in self.begun:
            self.begun[number] = Node(number)
            state = self.states[number]
            for place, given, act in self.program.calls:
                self.follow(begin(self.program, state, place, given), self.begun[number], act)
        return self.begun[number]

    def follow(self, stop, node, act):
        """Takes into a node what comes of a call that has stopped behind an act."""
        if stop.answers > 0:
            question = self.question_at(stop)
            node.asking.setdefault(question, act)
            self.link(question, node)
            return
        count_ways(node, 1)
        if stop.state is not None:
            number = self.number_of_state(stop.state)
            node.ending.setdefault(number, act)
            self.put(node, 1 << number)

    def question_at(self, stop):
        """The node of a question, in the state in which it is asked."""
        key = (stop.frames, stop.state)
        if key not in self.questions:
            row = self.row_of(self.number_of_state(stop.state))
            question = Question(row.at, stop, self.behind.setdefault(stop.frames, {}))
            self.questions[key] = question
            row.questions.append(question)
            for number in numbers_in(row.members):
                self.leaving.append((question, number))
        return self.questions[key]

    def leave(self, question, number):
        """Follows a call behind a question, when a state has been left behind there."""
        behind = question.behind
        if number not in behind:
            behind[number] = Branch(number)
            stop = question.stop
            for answer in range(stop.answers):
                after = go_on(self.program, stop.frames, self.states[number], answer)
                self.follow(after, behind[number], ("answer", answer))
        # A state may turn up twice for a question that is new while its row grows.
        if question not in behind[number].readers:
            self.link(behind[number], question)


def numbers_in(members):
    """The numbers of the bits of a number, in ascending order, as a list."""
    numbers = []
    while members > 0:
        lowest = members & -members
        numbers.append(lowest.bit_length() - 1)
        members -= lowest
    return numbers


def count_ways(start, ways):
    """Counts more ways at a node, if it counts them, and at all its readers. Raises TooLarge."""
    todo = [(start, ways)] if ways > 0 else []
    while len(todo) > 0:
        node, more = todo.pop()
        if more == 0 or not isinstance(node, Branch):
            continue
        node.ways += more
        if node.ways > MOST_WAYS:
            raise TooLarge("ways")
        for reader, times in node.readers.items():
            todo.append((reader, times * more))


def searched(house, state):
    """The Search of a house that begins in a state. Raises TooLarge."""
    search = Search(house)
    search.follow_all(state)
    return search


def row_states(search, row):
    """The states of a row, as a list; the beginning, which has the number 0, stands before all others."""
    return [search.states[number] for number in numbers_in(row.members)]


def least_rows(house):
    """The least closed rows, as pairs of a state and a list of states. Raises TooLarge."""
    search = searched(house, first_state(house))
    return [(search.states[number], row_states(search, row)) for number, row in search.rows.items()]


def reachable(house):
    """All states that outsiders can bring about while no call is open. Raises TooLarge."""
    return beginning_states(searched(house, first_state(house)))


def beginning_states(search):
    """The states in the row of the beginning of a search, as a list, the beginning first."""
    return row_states(search, search.rows[0])
