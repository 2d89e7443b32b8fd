"""What tests of running houses need: acts, and what comes of them."""

from nestcall.errors import BadAct
from nestcall.house import read_house
from nestcall.state import first_state
from nestcall.walk import Walk, walk


def call(procedure, number=0, contract="bank"):
    return ("call", contract, procedure, number)


def answer(number):
    return ("answer", number)


def done(text, *acts):
    """The Walk after some acts from the beginning of the house that a text writes."""
    return walk(read_house(text), list(acts))


def bad_at(acting, *arguments):
    """The index `at` of the BadAct that a function raises, or None."""
    try:
        acting(*arguments)
    except BadAct as error:
        return error.at
    return None


def seen(doing):
    """All that a Walk tells of itself."""
    return (doing.state, doing.failed, doing.acts, doing.asked(), doing.depth())


def first_of(text):
    return first_state(read_house(text))


class ActChecks:
    """Checks of acts, for test cases."""

    def check_done(self, text, acts, values, failed=0):
        """The acts can be done, leave no question open, and lead to these values of variables."""
        doing = done(text, *acts)
        self.assertEqual(doing.state[0], values, acts)
        self.assertEqual((doing.failed, doing.acts, doing.depth(), doing.asked()), (failed, len(acts), 0, 0), acts)
        return doing

    def check_fails(self, text, *acts):
        """The last act fails, and everything since the beginning is undone."""
        doing = done(text, *acts[:-1])
        self.assertEqual(doing.failed, 0)
        doing.act(acts[-1])
        self.assertEqual(seen(doing), (first_of(text), 1, len(acts), 0, 0), acts)

    def check_bad(self, doing, act):
        """The act cannot be done, and trying it changes nothing."""
        before = seen(doing)
        self.assertIs(doing.can(act), False, act)
        self.assertEqual(bad_at(doing.act, act), doing.acts, act)
        self.assertEqual(seen(doing), before, act)

    def check_can(self, doing, act):
        """The act can be done, and asking for it changes nothing."""
        before = seen(doing)
        self.assertIs(doing.can(act), True, act)
        self.assertEqual(seen(doing), before, act)


def from_state(text, state):
    return Walk(read_house(text), state)
