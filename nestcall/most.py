"""The most that outsiders can have, and shortest plays to what they can bring about."""

from nestcall.errors import TooLarge
from nestcall.search import Question, Row, beginning_states, reachable, searched
from nestcall.state import first_state, worth

MOST_ACTS = 1000


class Way:
    """Acts that lead from one state to another: those `before`, one that is `done`, and those `behind`.

    Each of the three may be None; `length` is the number of all acts.
    """

    def __init__(self, length, before, done, behind):
        self.length = length
        self.before = before
        self.done = done
        self.behind = behind

    def listed(self):
        """All acts, as a list."""
        acts = []
        todo = [self]
        while len(todo) > 0:
            part = todo.pop()
            if isinstance(part, Way):
                todo.extend([part.behind, part.done, part.before])
            elif part is not None:
                acts.append(part)
        return acts


class Plays:
    """Finds shortest ways from the nodes of a search to the states that they gather.

    Ways are taken in the order of their lengths, so that the first one from a
    node to a state is a shortest one: it consists of shorter ways and acts.
    `ways` are those that have been taken, `bounds` the least lengths that are
    known so far, and `left` the ways to the states that can be left behind
    before a reader goes on.
    """

    def __init__(self, search):
        self.search = search
        begun = list(search.begun.values())
        for branches in search.behind.values():
            begun.extend(list(branches.values()))
        leaving = list(search.rows.values()) + list(search.questions.values())
        self.ways = {node: {} for node in begun + leaving}
        self.bounds = {node: [MOST_ACTS + 1 for _ in search.states] for node in begun + leaving}
        self.left = {node: self.ways[search.rows[node.at]] for node in leaving}
        self.waiting = [[] for _ in range(MOST_ACTS + 1)]
        for row in search.rows.values():
            self.offer(row, row.at, Way(0, None, None, None))
        for node in begun:
            for number, act in node.ending.items():
                self.offer(node, number, Way(1, None, act, None))

    def offer(self, node, number, way):
        """Takes a way from a node to a state into account, if it is shorter than all before."""
        if way.length < self.bounds[node][number]:
            self.bounds[node][number] = way.length
            if not isinstance(node, Question) or self.is_needed(node, number, way.length + 1):
                self.waiting[way.length].append((node, number, way))

    def is_needed(self, question, number, length):
        """Whether some reader of a question knows no way to a state that is as short as this length."""
        for reader in question.readers:
            if length < self.bounds[reader][number]:
                return True
        return False

    def play(self, goals):
        """The acts of a shortest way from the beginning to one of some states. Raises TooLarge."""
        first = self.search.rows[0]
        for length in range(MOST_ACTS + 1):
            while len(self.waiting[length]) > 0:
                node, number, way = self.waiting[length].pop()
                if number in self.ways[node]:
                    continue
                if node == first and self.search.states[number] in goals:
                    return way.listed()
                self.ways[node][number] = way
                self.hand_on(node, number, way)
        raise TooLarge("acts")

    def hand_on(self, node, number, way):
        """Offers the ways that a new way from a node to a state is a part of."""
        if isinstance(node, Row):
            self.put_before(way, self.search.begun[number], node)
            for question in node.questions:
                self.put_before(way, question.behind[number], question)
            return
        for reader in node.readers:
            if node in reader.asking:
                self.offer(reader, number, Way(way.length + 1, None, reader.asking[node], way))
            elif node.at in self.left[reader]:
                before = self.left[reader][node.at]
                length = before.length + way.length
                if length < self.bounds[reader][number]:
                    self.offer(reader, number, Way(length, before, None, way))

    def put_before(self, before, node, reader):
        """Offers to a reader all ways of a node, with another way before each of them."""
        bounds = self.bounds[reader]
        for number, way in self.ways[node].items():
            length = before.length + way.length
            if length < bounds[number]:
                self.offer(reader, number, Way(length, before, None, way))


def most(house, prices):
    """The greatest worth of the states that outsiders can bring about while no call is open. Raises TooLarge."""
    return greatest_worth(reachable(house), prices)


def greatest_worth(states, prices):
    """The greatest worth of some states."""
    return max([worth(state, prices) for state in states])


def play_to(house, state):
    """A shortest play to a state, a list of acts, or None if there is none. Raises TooLarge."""
    search = searched(house, first_state(house))
    if state not in beginning_states(search):
        return None
    return Plays(search).play([state])


def best_play(house, prices):
    """A shortest play to the nearest of the states with the most, a list of acts. Raises TooLarge."""
    search = searched(house, first_state(house))
    states = beginning_states(search)
    greatest = greatest_worth(states, prices)
    return Plays(search).play([state for state in states if worth(state, prices) == greatest])
