"""The calls on one group, and what they answer."""

from grouptable.laws import group_products
from grouptable.reader import Reader
from grouptable.structure import Group

BEGIN = 0
TABLE = 1
ORDER = 2
PRIME = 3
CLASSES = 4
CLASS = 5
SIZE = 6

REFUSED = -1


class UnknownCall(ValueError):
    """A call's number that stands for no call."""


class Line:
    """One line of calls: it keeps the group that they are on."""

    def __init__(self):
        self.group = lone_group()


def answers(calls):
    """For each call how many numbers are answered, and these."""
    reader = Reader(calls)
    line = Line()
    told = []
    while not reader.at_end():
        numbers = answer_call(line, reader)
        told.append(len(numbers))
        told.extend(numbers)
    return told


def answer_call(line, reader):
    """The numbers that the next call answers."""
    call = reader.read_number()
    if call == BEGIN:
        return [begin(line)]
    if call == TABLE:
        return [take_table(line, reader.read_row())]
    if call == ORDER:
        return [line.group.order]
    if call == PRIME:
        return [line.group.prime]
    if call == CLASSES:
        return [len(line.group.class_sizes)]
    if call == CLASS:
        return [class_of(line.group, reader.read_number())]
    if call == SIZE:
        return [size_of(line.group, reader.read_number())]
    raise UnknownCall(f"no call has the number {call}")


def lone_group():
    """The group of 0 alone."""
    return Group([[0]])


def begin(line):
    line.group = lone_group()
    return 0


def take_table(line, numbers):
    products = group_products(numbers)
    if products is None:
        return REFUSED
    line.group = Group(products)
    return line.group.order


def class_of(group, thing):
    if not group.has_thing(thing):
        return REFUSED
    return group.class_numbers[thing]


def size_of(group, number):
    if not group.has_class(number):
        return REFUSED
    return group.class_sizes[number]
