"""Telling a row as a sum of rows that a matrix only makes multiples of, modulo a prime."""

from grouptable.modular import image_of, inverse_number, multiple, value_at, with_multiple, without_zero, zeros_of


class Chain:
    """Rows of one length, none of which is a sum of multiples of those before it."""

    def __init__(self, length, prime):
        self.length = length
        self.prime = prime
        self.rows = []
        self.cleared = []
        self.pivots = []

    def rest_of(self, row):
        """What is left of a row, less multiples of those kept, and how often each of them, then the row, is in that."""
        marks = [0 for place in range(self.length + 1)]
        marks[len(self.rows)] = 1
        rest = row + marks
        for cleared, pivot in zip(self.cleared, self.pivots):
            rest = with_multiple(rest, -rest[pivot], cleared, self.prime)
        return rest

    def is_new(self, rest):
        """Whether a row of which this is left is no sum of multiples of those kept."""
        return any(rest[:self.length])

    def keep(self, row, rest):
        """Keeps a new row, of which this is left."""
        pivot = [place for place in range(self.length) if rest[place] != 0][0]
        self.cleared.append(multiple(rest, inverse_number(rest[pivot], self.prime), self.prime))
        self.pivots.append(pivot)
        self.rows.append(row)

    def relation(self, rest):
        """How often the rows kept, then the row of which this is left, are to be added to make 0."""
        return rest[self.length:self.length + len(self.rows) + 1]


def split_row(matrix, row, prime):
    """The rows other than 0 whose sum the row is, and of which the matrix makes different multiples.

    There must be such rows.
    """
    chain = Chain(len(row), prime)
    image = row
    rest = chain.rest_of(image)
    while chain.is_new(rest):
        chain.keep(image, rest)
        image = image_of(matrix, image, prime)
        rest = chain.rest_of(image)
    # As a polynomial in the matrix the relation makes 0 of the row, so that it's 0 at just those multiples.
    relation = chain.relation(rest)
    return [part_at(chain.rows, relation, zero, prime) for zero in zeros_of(relation, prime)]


def part_at(images, polynomial, zero, prime):
    """The part of the row of which the matrix makes zero times that part."""
    # Of the other parts the matrix makes 0 by this polynomial, for it's 0 at their multiples.
    others = without_zero(polynomial, zero, prime)
    part = [0 for number in images[0]]
    for factor, image in zip(others, images):
        part = with_multiple(part, factor, image, prime)
    return multiple(part, inverse_number(value_at(others, zero, prime), prime), prime)
