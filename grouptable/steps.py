"""Whether a group comes apart in steps."""

from grouptable.counts import commutators


def comes_apart(group):
    """Whether one gets from all things to 0 alone, by what their xyx'y' make, again and again."""
    things = list(range(group.order))
    while len(things) > 1:
        makers = sorted(set(commutators(group, things)))
        fewer = all_made(group.products, makers)
        # What a step doesn't make fewer, no later step does.
        if len(fewer) == len(things):
            return False
        things = fewer
    return True


def all_made(products, makers):
    """The makers and whatever products they make."""
    made = list(makers)
    known = [thing in makers for thing in range(len(products))]
    place = 0
    while place < len(made):
        for maker in makers:
            product = products[made[place]][maker]
            if not known[product]:
                known[product] = True
                made.append(product)
        place += 1
    return made
