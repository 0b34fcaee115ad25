"""The calls on one group, and what they answer."""

from grouptable.characters import characters_of, kind_of
from grouptable.counts import count_pairs, count_roots, ways_for_each
from grouptable.laws import group_products
from grouptable.reader import Reader
from grouptable.steps import comes_apart
from grouptable.structure import Group

BEGIN = 0
TABLE = 1
ORDER = 2
PRIME = 3
CLASSES = 4
CLASS = 5
SIZE = 6
CHARACTER = 7
KIND = 8
WAYS = 9
PAIRS = 10
ROOTS = 11
SOLVABLE = 12

REFUSED = -1

MOST_TOLD = 64
MOST_POWER = 1000


class UnknownCall(ValueError):
    """A call's number that stands for no call."""


class Line:
    """One line of calls: it keeps the group that they are on."""

    def __init__(self):
        self.group = lone_group()


def answers(calls):
    """For each call how many numbers are answered, and these."""
    reader = Reader(calls)
    line = Line()
    told = []
    while not reader.at_end():
        numbers = answer_call(line, reader)
        told.append(len(numbers))
        told.extend(numbers)
    return told


def answer_call(line, reader):
    """The numbers that the next call answers."""
    call = reader.read_number()
    if call == CHARACTER:
        return answer_character(line.group, reader)
    if call == BEGIN:
        return [begin(line)]
    if call == TABLE:
        return [take_table(line, reader.read_row())]
    return [answer_about(line.group, call, reader)]


def answer_about(group, call, reader):
    """The one number that a call answers which asks something about the group."""
    if call == ORDER:
        return group.order
    if call == PRIME:
        return group.prime
    if call == CLASSES:
        return len(group.class_sizes)
    if call == CLASS:
        return class_of(group, reader.read_number())
    if call == SIZE:
        return size_of(group, reader.read_number())
    if call == KIND:
        return kind(group, reader.read_number())
    if call == WAYS:
        return answer_ways(group, reader)
    if call == PAIRS:
        return pairs(group, reader.read_number())
    if call == ROOTS:
        return answer_roots(group, reader)
    if call == SOLVABLE:
        return solvable(group)
    raise UnknownCall(f"no call has the number {call}")


def lone_group():
    """The group of 0 alone."""
    return Group([[0]])


def begin(line):
    line.group = lone_group()
    return 0


def take_table(line, numbers):
    products = group_products(numbers)
    if products is None:
        return REFUSED
    line.group = Group(products)
    return line.group.order


def class_of(group, thing):
    if not group.has_thing(thing):
        return REFUSED
    return group.class_numbers[thing]


def size_of(group, number):
    if not group.has_class(number):
        return REFUSED
    return group.class_sizes[number]


def answer_character(group, reader):
    number = reader.read_number()
    most = reader.read_number()
    if not group.has_character(number):
        return [REFUSED]
    told = [len(group.class_sizes)]
    if 1 <= most <= MOST_TOLD:
        told.extend(characters_of(group)[number][:most])
    return told


def kind(group, number):
    if not group.has_character(number):
        return REFUSED
    return kind_of(group, characters_of(group)[number])


def answer_ways(group, reader):
    first = reader.read_number()
    second = reader.read_number()
    thing = reader.read_number()
    if not group.has_class(first) or not group.has_class(second) or not group.has_thing(thing):
        return REFUSED
    return ways_for_each(group, first, thing)[second]


def pairs(group, thing):
    if not group.has_thing(thing):
        return REFUSED
    return count_pairs(group, thing)


def answer_roots(group, reader):
    thing = reader.read_number()
    power = reader.read_number()
    if not group.has_thing(thing) or not 0 <= power <= MOST_POWER:
        return REFUSED
    return count_roots(group, thing, power)


def solvable(group):
    return 1 if comes_apart(group) else 0
