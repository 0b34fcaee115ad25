"""Tables of groups, made from things whose products are known; calls as lists; what the words say of a table."""

from itertools import permutations, product

from grouptable.group import answers

LEAST = -2147483648
GREATEST = 2147483647

BEGIN = [0]
ORDER = [2]
PRIME = [3]
CLASSES = [4]
SOLVABLE = [12]


def call_table(t):
    return [1, len(t)] + t


def call_class(a):
    return [5, a]


def call_size(i):
    return [6, i]


def call_character(r, most):
    return [7, r, most]


def call_kind(r):
    return [8, r]


def call_ways(i, j, a):
    return [9, i, j, a]


def call_pairs(a):
    return [10, a]


def call_roots(a, m):
    return [11, a, m]


def line(*calls):
    """The calls as one list, behind a begin."""
    return sum(calls, list(BEGIN))


def singles(numbers):
    """The answers of calls that answer one number each."""
    return [part for number in numbers for part in (1, number)]


def in_parts(told):
    """For each call the numbers that it answers."""
    parts = []
    while told:
        parts.append(told[1:1 + told[0]])
        told = told[1 + told[0]:]
    return parts


def ask(t, calls):
    """For each call, behind this table, the numbers that it answers; in lists of at most 100 calls."""
    parts = []
    for start in range(0, len(calls), 98):
        told = in_parts(answers(line(call_table(t), *calls[start:start + 98])))
        assert told[:2] == [[0], [side(t)]]
        parts.extend(told[2:])
    return parts


def ask_singles(t, calls):
    """The same of calls that answer one number each."""
    return [number for [number] in ask(t, calls)]


def not_there(count):
    """Numbers of none of so many things."""
    return (-1, count, LEAST, GREATEST)


def table_of(things, times):
    """The table of these things, of which the first changes nothing."""
    place = {thing: number for number, thing in enumerate(things)}
    return [place[times(a, b)] for a in things for b in things]


def cyclic(k):
    return [(a + b) % k for a in range(k) for b in range(k)]


def compose(a, b):
    return tuple(a[x] for x in b)


def is_even(p):
    swaps = [1 for i in range(len(p)) for j in range(i) if p[j] > p[i]]
    return len(swaps) % 2 == 0


def symmetric(n):
    return table_of(list(permutations(range(n))), compose)


def alternating(n):
    return table_of([p for p in permutations(range(n)) if is_even(p)], compose)


def dihedral_of(t):
    """The things of a group in which products commute, then as many flips, which turn each thing to its inverse."""
    k = side(t)
    inverse = inverses_by_their_words(t)

    def times(a, b):
        return (t[a[0] * k + (inverse[b[0]] if a[1] else b[0])], (a[1] + b[1]) % 2)
    return table_of([(turn, flip) for flip in (0, 1) for turn in range(k)], times)


def dihedral(n):
    """Turns of n corners first, then the flips."""
    return dihedral_of(cyclic(n))


def metacyclic(m, n, s, z):
    """Powers of an a, times powers of a b: bab' is a to the power s, and b to the power n is a to the power z."""
    def times(x, y):
        carried = z if x[1] + y[1] >= n else 0
        return ((x[0] + s ** x[1] * y[0] + carried) % m, (x[1] + y[1]) % n)
    assert s ** n % m == 1 % m and z * s % m == z % m
    return table_of([(i, j) for j in range(n) for i in range(m)], times)


def quaternions():
    """1, -1, i, -i, j, -j, k, -k, each told by an axis and a sign."""
    axes = {(1, 2): (3, 1), (2, 3): (1, 1), (3, 1): (2, 1), (2, 1): (3, -1), (3, 2): (1, -1), (1, 3): (2, -1)}

    def times(a, b):
        if a[0] == 0 or b[0] == 0:
            return (a[0] + b[0], a[1] * b[1])
        if a[0] == b[0]:
            return (0, -a[1] * b[1])
        axis, sign = axes[(a[0], b[0])]
        return (axis, sign * a[1] * b[1])
    return table_of([(axis, sign) for axis in range(4) for sign in (1, -1)], times)


def special_linear(p):
    """Two by two matrices of determinant 1, modulo p."""
    def times(m, n):
        return ((m[0] * n[0] + m[1] * n[2]) % p, (m[0] * n[1] + m[1] * n[3]) % p,
                (m[2] * n[0] + m[3] * n[2]) % p, (m[2] * n[1] + m[3] * n[3]) % p)
    one = (1, 0, 0, 1)
    others = [m for m in product(range(p), repeat=4) if (m[0] * m[3] - m[1] * m[2]) % p == 1 and m != one]
    return table_of([one] + others, times)


def side(t):
    return next(k for k in range(1, 65) if k * k == len(t))


def direct(s, t):
    """Pairs of things of two groups."""
    m, n = side(s), side(t)

    def times(a, b):
        return (s[a[0] * m + b[0]], t[a[1] * n + b[1]])
    return table_of(list(product(range(m), range(n))), times)


def renamed(t, names):
    """The same table where thing a is now called names[a]."""
    k = side(t)
    back = {name: thing for thing, name in enumerate(names)}
    return [names[t[back[a] * k + back[b]]] for a in range(k) for b in range(k)]


def strewn(t, stride):
    """The same group with its things but 0 named in strides; these and k - 1 have no common divisor."""
    k = side(t)
    return renamed(t, [0] + [1 + stride * a % (k - 1) for a in range(k - 1)])


def doubled_away(times):
    """The group of 2 ** times things in which every aa is 0."""
    k = 2 ** times
    return [a ^ b for a in range(k) for b in range(k)]


def all_groups():
    """Tables by a name; in the last ones the least things of classes lie otherwise."""
    tables = {f"cyclic {k}": cyclic(k) for k in range(1, 25)}
    tables.update({f"dihedral {n}": dihedral(n) for n in range(2, 13)})
    tables.update({f"symmetric {n}": symmetric(n) for n in range(1, 5)})
    tables.update({
        "alternating 4": alternating(4),
        "quaternions": quaternions(),
        "special linear 3": special_linear(3),
        "doubled away 8": doubled_away(3),
        "doubled away 16": doubled_away(4),
        "cyclic 3 by cyclic 3": direct(cyclic(3), cyclic(3)),
        "cyclic 4 by cyclic 4": direct(cyclic(4), cyclic(4)),
        "cyclic 2 by cyclic 12": direct(cyclic(2), cyclic(12)),
        "doubled away 4 by cyclic 6": direct(doubled_away(2), cyclic(6)),
        "cyclic 3 by symmetric 3": direct(cyclic(3), symmetric(3)),
        "cyclic 4 by symmetric 3": direct(cyclic(4), symmetric(3)),
        "cyclic 2 by quaternions": direct(cyclic(2), quaternions()),
        "cyclic 3 by quaternions": direct(cyclic(3), quaternions()),
        "cyclic 3 by dihedral 4": direct(cyclic(3), dihedral(4)),
        "cyclic 2 by alternating 4": direct(cyclic(2), alternating(4)),
        "flipped cyclic 3 by cyclic 3": dihedral_of(direct(cyclic(3), cyclic(3))),
        "dicyclic 12": metacyclic(6, 2, 5, 3),
        "dicyclic 16": metacyclic(8, 2, 7, 4),
        "dicyclic 24": metacyclic(12, 2, 11, 6),
        "half flipped 16": metacyclic(8, 2, 3, 0),
        "five times 16": metacyclic(8, 2, 5, 0),
        "turned 20": metacyclic(5, 4, 2, 0),
        "turned 21": metacyclic(7, 3, 2, 0),
        "turned 24": metacyclic(3, 8, 2, 0),
        "symmetric 3 renamed": renamed(symmetric(3), [0, 5, 3, 1, 2, 4]),
        "symmetric 4 renamed": renamed(symmetric(4), [0] + list(range(23, 0, -1))),
        "quaternions renamed": renamed(quaternions(), [0, 7, 3, 1, 5, 2, 6, 4]),
        "cyclic 24 strewn": strewn(cyclic(24), 5),
        "special linear 3 strewn": strewn(special_linear(3), 7),
        "cyclic 3 by dihedral 4 strewn": strewn(direct(cyclic(3), dihedral(4)), 9),
        "turned 20 strewn": strewn(metacyclic(5, 4, 2, 0), 4),
        "turned 21 strewn": strewn(metacyclic(7, 3, 2, 0), 7),
    })
    return tables


def inverses_by_their_words(t):
    k = side(t)
    return {a: b for a in range(k) for b in range(k) if t[a * k + b] == 0}


def classes_by_their_words(t):
    """The classes, by their least things."""
    k = side(t)
    inverse = inverses_by_their_words(t)
    found = {tuple(sorted({t[t[x * k + a] * k + inverse[x]] for x in range(k)})) for a in range(k)}
    return sorted(found)


def class_numbers_by_their_words(t):
    """For each thing the number of its class."""
    return [next(i for i, c in enumerate(classes_by_their_words(t)) if a in c) for a in range(side(t))]


def powers(t, a):
    """a to the powers 1, 2 and so on, up to 0."""
    k = side(t)
    found = [a]
    while found[-1] != 0:
        found.append(t[found[-1] * k + a])
    return found


def prime_by_its_words(t):
    k = side(t)
    exponent = next(m for m in range(1, 1000) if all(m % len(powers(t, a)) == 0 for a in range(k)))
    return next(p for p in range(2 * k + 1, 100000)
                if p % exponent == 1 % exponent and all(p % d for d in range(2, p)))


def ways_by_their_words(t):
    """For (i, j, a), where there are any, for how many x of class i and y of class j a is xy."""
    number = class_numbers_by_their_words(t)
    ways = {}
    for x, y in product(range(side(t)), repeat=2):
        key = (number[x], number[y], t[x * side(t) + y])
        ways[key] = ways.get(key, 0) + 1
    return ways


def characters_told(t):
    """The characters that the program tells, one for each class."""
    count = len(classes_by_their_words(t))
    told = ask(t, [call_character(r, 64) for r in range(count)])
    assert all(part[0] == count for part in told)
    return [part[1:] for part in told]
