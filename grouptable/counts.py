"""In how many ways a thing comes out."""


def ways_for_each(group, first, thing):
    """For each class j: for how many x of class first and y of class j the thing is xy."""
    ways = [0 for members in group.class_members]
    for member in group.class_members[first]:
        # For an x the thing is xy for one y alone, which is x' times the thing.
        ways[group.class_numbers[group.products[group.inverses[member]][thing]]] += 1
    return ways


def commutators(group, things):
    """xyx'y' for each x and each y of the things, as often as it comes out."""
    found = []
    for first in things:
        found.extend([group.commutator(first, second) for second in things])
    return found


def count_pairs(group, thing):
    """For how many x and y xyx'y' is the thing."""
    return commutators(group, list(range(group.order))).count(thing)


def count_roots(group, thing, power):
    """How many things to the power are the thing."""
    raised = [0 for base in range(group.order)]
    for step in range(power):
        raised = [group.products[reached][base] for base, reached in enumerate(raised)]
    return raised.count(thing)
