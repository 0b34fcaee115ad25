"""A group's characters.

Here a sum of things, each some number of times modulo the prime, all of one class as often as one another, is told by
a row: for each class, how often its things are in the sum. Such sums can be added, and multiplied by one another. The
thing 0, as such a sum, is a sum of as many parts as there are classes, each of which is itself when it's squared, and
gives 0 when it's multiplied by another. Each part tells a character.
"""

from grouptable.counts import ways_for_each
from grouptable.modular import inverse_number, multiple
from grouptable.splitting import split_row


def characters_of(group):
    """The characters, in the order of their numbers."""
    if group.characters is None:
        group.characters = sorted([character_of_part(group, part) for part in all_parts(group)])
    return group.characters


def all_parts(group):
    """The parts of the thing 0."""
    classes = len(group.class_sizes)
    parts = [[1] + [0 for number in range(1, classes)]]
    for number in range(1, classes):
        if len(parts) < classes:
            parts = split_each(class_matrix(group, number), parts, group.prime)
    return parts


def split_each(matrix, rows, prime):
    found = []
    for row in rows:
        found.extend(split_row(matrix, row, prime))
    return found


def class_matrix(group, number):
    """What makes of a sum that sum multiplied by the sum of all things of a class."""
    return [ways_for_each(group, number, members[0]) for members in group.class_members]


def character_of_part(group, part):
    """The character r for which the part has each thing of class i's opposite r(0) r(i) / k times."""
    products_with_degree = multiple(part, group.order, group.prime)
    degree = degree_of(products_with_degree[0])
    numbers = multiple(products_with_degree, inverse_number(degree, group.prime), group.prime)
    return [numbers[group.opposite(number)] for number in range(len(numbers))]


def degree_of(square):
    """The degree that has this square."""
    # The square is k at the most, less than the prime: what it leaves by the prime is the square itself.
    degree = 1
    while degree * degree < square:
        degree += 1
    return degree


def kind_of(group, character):
    """By the sum of the character's numbers for all aa: 1 if it's k, 0 if it's 0, else 2."""
    squares = [row[thing] for thing, row in enumerate(group.products)]
    total = sum([character[group.class_numbers[square]] for square in squares]) % group.prime
    if total == group.order % group.prime:
        return 1
    if total == 0:
        return 0
    return 2
