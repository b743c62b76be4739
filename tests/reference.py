"""What the document says, told once more by other means: fractions, and all parts one by one."""

from fractions import Fraction
from itertools import combinations


def parts(count):
    nodes = range(1, count + 1)
    return [set(part) for size in nodes for part in combinations(nodes, size)]


def within(pairs, part):
    return sum(1 for pair in pairs if set(pair) <= part)


def density(pairs, part):
    value = Fraction(within(pairs, part), len(part))
    return [within(pairs, part), value.numerator, value.denominator]


def densest(count, pairs):
    values = [(Fraction(within(pairs, part), len(part)), part) for part in parts(count)]
    best = max(value for value, part in values)
    members = set().union(*[part for value, part in values if value == best])
    return [best.numerator, best.denominator, len(members), *sorted(members)]


def core(count, pairs, k):
    """The core k holds just the parts in which each node has k edges or more."""
    members = set()
    for part in parts(count):
        inner = [pair for pair in pairs if set(pair) <= part]
        if all(sum(1 for pair in inner if node in pair) >= k for node in part):
            members |= part
    return [len(members), *sorted(members)]
