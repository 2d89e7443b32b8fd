"""Written forms of states and of rows."""

from nestcall.errors import BadPaper
from nestcall.words import digits_value

MOST_DIGITS = 9
# Larger than any number with so many digits.
TOO_LARGE = 1000000000


def state_text(state):
    """The written form of a state."""
    return "/".join([rows_text(state[0]), rows_text(state[1]), numbers_text(state[2])])


def rows_text(rows):
    """The written form of a list of numbers for each contract."""
    return ";".join([numbers_text(row) for row in rows])


def numbers_text(numbers):
    """The written form of some numbers."""
    return ",".join([str(number) for number in numbers])


def read_state(house, text, at=0):
    """The state that a text writes. Raises BadPaper with the given index."""
    parts = text.split("/")
    if len(parts) != 3:
        raise BadPaper(at)
    sizes = [[variable[1] for variable in contract[1]] for contract in house.contracts]
    free = [TOO_LARGE for _ in house.assets]
    values = read_rows(parts[0], sizes, at)
    amounts = read_rows(parts[1], [free for _ in house.contracts], at)
    return (values, amounts, read_numbers(parts[2], free, at))


def read_rows(text, limits, at):
    """The numbers of each contract, which are less than its limits, as tuples."""
    # A single empty text is one contract without numbers, but also no contract.
    words = text.split(";") if text != "" or len(limits) > 0 else []
    if len(words) != len(limits):
        raise BadPaper(at)
    return tuple([read_numbers(word, row, at) for word, row in zip(words, limits)])


def read_numbers(text, limits, at):
    """The numbers that a text writes, each less than its limit, as a tuple."""
    words = text.split(",") if text != "" else []
    if len(words) != len(limits):
        raise BadPaper(at)
    numbers = [digits_value(word, MOST_DIGITS) for word in words]
    if not all([number is not None and number < limit for number, limit in zip(numbers, limits)]):
        raise BadPaper(at)
    return tuple(numbers)


def paper_lines(pairs):
    """The written form of rows, as a list of lines."""
    return [" ".join([state_text(state)] + [state_text(member) for member in row]) for state, row in pairs]


def read_paper(house, lines):
    """The rows that some lines write, as pairs of a state and a list of states. Raises BadPaper."""
    pairs = []
    for at, line in enumerate(lines):
        states = [read_state(house, word, at) for word in line.split(" ")]
        pairs.append((states[0], states[1:]))
    return pairs
