"""Acts of outsiders, one after the other."""

from nestcall.errors import BadAct
from nestcall.program import Program
from nestcall.running import begin, go_on
from nestcall.state import first_state


class Walk:
    """A house in which outsiders act, from the beginning or from a given state."""

    def __init__(self, house, state=None):
        self.state = first_state(house) if state is None else state
        self.failed = 0
        self.acts = 0
        self._program = Program(house)
        self._stops = []
        self._before = self.state

    def act(self, act):
        """Does an act. Raises BadAct, and changes nothing, if it cannot be done."""
        if not self.can(act):
            raise BadAct(self.acts)
        if act[0] == "answer":
            asking = self._stops.pop()
            stop = go_on(self._program, asking.frames, self.state, act[1])
        else:
            if len(self._stops) == 0:
                self._before = self.state
            place = self._program.places[(act[1], act[2])]
            stop = begin(self._program, self.state, place, act[3])
        self.acts += 1
        self._stop_at(stop)

    def _stop_at(self, stop):
        """Takes over where a call stopped; a failure undoes the outermost call."""
        if stop.state is None:
            self.failed += 1
            self.state = self._before
            self._stops = []
            return
        self.state = stop.state
        if stop.answers > 0:
            self._stops.append(stop)

    def can(self, act):
        """Whether an act can be done now."""
        if act[0] == "answer":
            return 0 <= act[1] < self.asked()
        place = self._program.places.get((act[1], act[2]))
        if place is None:
            return False
        procedure = self._program.procedures[place]
        return procedure.shown and 0 <= act[3] < procedure.size

    def asked(self):
        """The number of answers that the open question allows, or 0."""
        return self._stops[-1].answers if len(self._stops) > 0 else 0

    def depth(self):
        """The number of open questions."""
        return len(self._stops)


def walk(house, acts):
    """The Walk after some acts from the beginning. Raises BadAct."""
    done = Walk(house)
    for act in acts:
        done.act(act)
    return done
