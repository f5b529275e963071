"""Paths: from a path's bytes to its steps, and to the name of the attribute behind them."""

from oneform.characters import decoded
from oneform.faults import NoDocument, NoPath
from oneform.reader import Reader

MOST_DIGITS = 5


# The step to the number-th element of that name.
class Step:
    def __init__(self, name, number):
        self.name = name
        self.number = number


# Its attribute is None where it leads to an element.
class Path:
    def __init__(self, steps, attribute):
        self.steps = steps
        self.attribute = attribute


def step_number(digits):
    if not 1 <= len(digits) <= MOST_DIGITS or digits[0] == 48:
        raise NoPath()
    number = 0
    for digit in digits:
        if not 48 <= digit <= 57:
            raise NoPath()
        number = number * 10 + digit - 48
    return number


def take_step(reader):
    name = reader.take_name()
    if reader.took("["):
        return Step(name, step_number(reader.take_up_to("]")))
    return Step(name, 1)


def take_path(reader):
    steps = [take_step(reader)]
    attribute = None
    while attribute is None and reader.took("/"):
        if reader.took("@"):
            attribute = reader.take_name()
        else:
            steps.append(take_step(reader))
    if not reader.ended():
        raise NoPath()
    return Path(steps, attribute)


def read_path(path):
    try:
        return take_path(Reader(decoded(path)))
    except NoDocument:
        # What reads a path reads texts too, and names its fault by them.
        raise NoPath() from None
