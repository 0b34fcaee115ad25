"""Whether a list of numbers is the table of a group."""

MOST_THINGS = 64


def group_products(numbers):
    """The rows of the table that the numbers tell, or None if it's no group's."""
    order = square_root(len(numbers))
    if order is None:
        return None
    products = [numbers[thing * order:(thing + 1) * order] for thing in range(order)]
    # The other laws look things up in the table, so it must be closed first.
    if not is_closed(products):
        return None
    if has_neutral_zero(products) and has_inverses(products) and is_associative(products):
        return products
    return None


def square_root(number):
    for root in range(1, MOST_THINGS + 1):
        if root * root == number:
            return root
    return None


def is_closed(products):
    order = len(products)
    for row in products:
        if min(row) < 0 or max(row) >= order:
            return False
    return True


def has_neutral_zero(products):
    things = list(range(len(products)))
    return products[0] == things and [row[0] for row in products] == things


def has_inverses(products):
    return all([0 in row for row in products])


def is_associative(products):
    for first in products:
        for second, product in enumerate(first):
            # The row of (ab)c for all c, beside that of a(bc).
            if products[product] != [first[thing] for thing in products[second]]:
                return False
    return True
