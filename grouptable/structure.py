"""What follows from a group's table of products."""

from grouptable.primes import least_prime


class Group:
    """A group of the things 0 to k - 1, of which 0 changes nothing."""

    def __init__(self, products):
        order = len(products)
        self.products = products
        self.order = order
        self.inverses = [row.index(0) for row in products]
        self.prime = least_prime(2 * order, exponent(products))
        self.class_numbers = number_classes(products, self.inverses)
        self.class_members = members_of_each(self.class_numbers)
        self.class_sizes = [len(members) for members in self.class_members]
        # They take the longest to work out, so that's done when they are first asked for.
        self.characters = None

    def has_thing(self, thing):
        return 0 <= thing < self.order

    def has_class(self, number):
        return 0 <= number < len(self.class_sizes)

    def has_character(self, number):
        # There are as many characters as classes.
        return self.has_class(number)

    def opposite(self, number):
        """The class of the inverses of what's in a class."""
        return self.class_numbers[self.inverses[self.class_members[number][0]]]

    def commutator(self, first, second):
        """xyx'y' of an x and a y."""
        back = self.products[self.inverses[first]][self.inverses[second]]
        return self.products[self.products[first][second]][back]


def exponent(products):
    """The least power, from 1 on, to which everything is 0."""
    power = 1
    raised = list(range(len(products)))
    while any(raised):
        raised = [products[thing][base] for base, thing in enumerate(raised)]
        power += 1
    return power


def number_classes(products, inverses):
    """For each thing its class's number."""
    numbers = [None for thing in products]
    known = 0
    # Things are gone through from the least on, so that classes are numbered by their least things.
    for thing in range(len(products)):
        if numbers[thing] is None:
            for row, inverse in zip(products, inverses):
                numbers[products[row[thing]][inverse]] = known
            known += 1
    return numbers


def members_of_each(class_numbers):
    """For each class what's in it, the least first."""
    members = [[] for number in range(max(class_numbers) + 1)]
    for thing, number in enumerate(class_numbers):
        members[number].append(thing)
    return members
