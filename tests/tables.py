"""Tables of groups, made from things whose products are known, and calls as lists."""

from itertools import permutations, product

LEAST = -2147483648
GREATEST = 2147483647

BEGIN = [0]
ORDER = [2]
PRIME = [3]
CLASSES = [4]


def call_table(t):
    return [1, len(t)] + t


def call_class(a):
    return [5, a]


def call_size(i):
    return [6, i]


def line(*calls):
    """The calls as one list, behind a begin."""
    return sum(calls, list(BEGIN))


def singles(numbers):
    """The answers of calls that answer one number each."""
    return [part for number in numbers for part in (1, number)]


def table_of(things, times):
    """The table of these things, of which the first changes nothing."""
    place = {thing: number for number, thing in enumerate(things)}
    return [place[times(a, b)] for a in things for b in things]


def cyclic(k):
    return [(a + b) % k for a in range(k) for b in range(k)]


def compose(a, b):
    return tuple(a[x] for x in b)


def is_even(p):
    swaps = [1 for i in range(len(p)) for j in range(i) if p[j] > p[i]]
    return len(swaps) % 2 == 0


def symmetric(n):
    return table_of(list(permutations(range(n))), compose)


def alternating(n):
    return table_of([p for p in permutations(range(n)) if is_even(p)], compose)


def dihedral(n):
    """Turns of n corners first, then the flips."""
    def times(a, b):
        return ((a[0] + (-b[0] if a[1] else b[0])) % n, (a[1] + b[1]) % 2)
    return table_of([(turn, flip) for flip in (0, 1) for turn in range(n)], times)


def quaternions():
    """1, -1, i, -i, j, -j, k, -k, each told by an axis and a sign."""
    axes = {(1, 2): (3, 1), (2, 3): (1, 1), (3, 1): (2, 1), (2, 1): (3, -1), (3, 2): (1, -1), (1, 3): (2, -1)}

    def times(a, b):
        if a[0] == 0 or b[0] == 0:
            return (a[0] + b[0], a[1] * b[1])
        if a[0] == b[0]:
            return (0, -a[1] * b[1])
        axis, sign = axes[(a[0], b[0])]
        return (axis, sign * a[1] * b[1])
    return table_of([(axis, sign) for axis in range(4) for sign in (1, -1)], times)


def special_linear(p):
    """Two by two matrices of determinant 1, modulo p."""
    def times(m, n):
        return ((m[0] * n[0] + m[1] * n[2]) % p, (m[0] * n[1] + m[1] * n[3]) % p,
                (m[2] * n[0] + m[3] * n[2]) % p, (m[2] * n[1] + m[3] * n[3]) % p)
    one = (1, 0, 0, 1)
    others = [m for m in product(range(p), repeat=4) if (m[0] * m[3] - m[1] * m[2]) % p == 1 and m != one]
    return table_of([one] + others, times)


def side(t):
    return next(k for k in range(1, 65) if k * k == len(t))


def direct(s, t):
    """Pairs of things of two groups."""
    m, n = side(s), side(t)

    def times(a, b):
        return (s[a[0] * m + b[0]], t[a[1] * n + b[1]])
    return table_of(list(product(range(m), range(n))), times)


def renamed(t, names):
    """The same table where thing a is now called names[a]."""
    k = side(t)
    back = {name: thing for thing, name in enumerate(names)}
    return [names[t[back[a] * k + back[b]]] for a in range(k) for b in range(k)]


def doubled_away(times):
    """The group of 2 ** times things in which every aa is 0."""
    k = 2 ** times
    return [a ^ b for a in range(k) for b in range(k)]


def all_groups():
    """Tables by a name; in the last ones the least things of classes lie otherwise."""
    tables = {f"cyclic {k}": cyclic(k) for k in range(1, 25)}
    tables.update({f"dihedral {n}": dihedral(n) for n in range(2, 13)})
    tables.update({f"symmetric {n}": symmetric(n) for n in range(1, 5)})
    tables.update({
        "alternating 4": alternating(4),
        "quaternions": quaternions(),
        "special linear 3": special_linear(3),
        "doubled away 16": doubled_away(4),
        "cyclic 3 by symmetric 3": direct(cyclic(3), symmetric(3)),
        "cyclic 2 by quaternions": direct(cyclic(2), quaternions()),
        "symmetric 3 renamed": renamed(symmetric(3), [0, 5, 3, 1, 2, 4]),
        "symmetric 4 renamed": renamed(symmetric(4), [0] + list(range(23, 0, -1))),
        "quaternions renamed": renamed(quaternions(), [0, 7, 3, 1, 5, 2, 6, 4]),
    })
    return tables
