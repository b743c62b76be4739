"""What the document says, told once more by other means: fractions, all parts one by one, all ways one by one."""

from collections import Counter
from fractions import Fraction
from itertools import combinations, product


def parts(count):
    nodes = range(1, count + 1)
    return [set(part) for size in nodes for part in combinations(nodes, size)]


def within(pairs, part):
    return sum(1 for pair in pairs if set(pair) <= part)


def density(pairs, part):
    value = Fraction(within(pairs, part), len(part))
    return [within(pairs, part), value.numerator, value.denominator]


def densest(count, pairs):
    values = [(Fraction(within(pairs, part), len(part)), part) for part in parts(count)]
    best = max(value for value, part in values)
    members = set().union(*[part for value, part in values if value == best])
    return [best.numerator, best.denominator, len(members), *sorted(members)]


def core(count, pairs, k):
    """The core k holds just the parts in which each node has k edges or more."""
    members = set()
    for part in parts(count):
        inner = Counter(node for pair in pairs if set(pair) <= part for node in pair)
        if all(inner[node] >= k for node in part):
            members |= part
    return [len(members), *sorted(members)]


def cores(count, pairs):
    """A node's core is the greatest k for which some part with it has k edges or more at each of its nodes."""
    found = [0] * count
    for part in parts(count):
        inner = Counter(node for pair in pairs if set(pair) <= part for node in pair)
        fewest = min(inner[node] for node in part)
        for node in part:
            found[node - 1] = max(found[node - 1], fewest)
    return found


def peel(count, pairs):
    neighbours = {node: Counter() for node in range(1, count + 1)}
    for x, y in pairs:
        neighbours[x][y] += 1
        neighbours[y][x] += 1
    told = [count]
    while neighbours:
        fewest, going = min((sum(near.values()), node) for node, near in neighbours.items())
        told += [going, fewest]
        del neighbours[going]
        for near in neighbours.values():
            near.pop(going, None)
    return told


def turned_by_every_way(pairs):
    """Ways come in order, lower ends first, so the first of the best is the first that is found."""
    best = None
    for way in product(*[sorted(pair) for pair in pairs]):
        most = max(Counter(way).values(), default=0)
        if best is None or most < best[0]:
            best = [most, *way]
    return best


def turned(pairs):
    choices = [sorted(pair) for pair in pairs]
    most = 0
    while not can_turn(choices, most):
        most += 1
    for place, (low, high) in enumerate(choices):
        choices[place] = [low]
        if not can_turn(choices, most):
            choices[place] = [high]
    return [most, *[end for end, in choices]]


def can_turn(choices, most):
    """Whether each edge gets a seat at one of its choices, where each node has so many; others may move for it."""
    taken = {}

    def seated(place, tried):
        for seat in [(end, number) for end in choices[place] for number in range(most)]:
            if seat not in tried:
                tried.add(seat)
                if seat not in taken or seated(taken[seat], tried):
                    taken[seat] = place
                    return True
        return False

    return all(seated(place, set()) for place in range(len(choices)))


def is_forest(count, pairs):
    return all(within(pairs, part) < len(part) for part in parts(count))


def forests_by_every_way(count, pairs):
    for size in range(len(pairs) + 1):
        for laid in product(range(size), repeat=len(pairs)):
            if all(is_forest(count, [pair for pair, into in zip(pairs, laid) if into == forest])
                   for forest in range(size)):
                return [size]
    raise AssertionError("one edge a forest always does")


def forests(count, pairs):
    size = 0
    while not can_be_laid(count, pairs, size):
        size += 1
    return [size]


def can_be_laid(count, pairs, size):
    """Edge by edge; one that closes a circle everywhere may push out another of that circle, and so on."""
    laid = {}
    for place in range(len(pairs)):
        pushed_by = {place: None}
        waiting = [place]
        while waiting:
            going = waiting.pop(0)
            others = [forest for forest in range(size) if forest != laid.get(going)]
            into = [forest for forest in others if not closing(count, pairs, laid, going, forest)]
            if into:
                break
            for forest in others:
                for other in closing(count, pairs, laid, going, forest):
                    if other not in pushed_by:
                        pushed_by[other] = going
                        waiting.append(other)
        else:
            return False
        forest = into[0]
        while going is not None:
            before = laid.get(going)
            laid[going] = forest
            forest = before
            going = pushed_by[going]
    return True


def closing(count, pairs, laid, going, forest):
    """The edges of the forest each of which, taken out, makes room for the one that's going there; none if it fits."""
    there = [place for place in laid if laid[place] == forest]
    if is_circle_free(count, [pairs[place] for place in [*there, going]]):
        return []
    return [place for place in there
            if is_circle_free(count, [pairs[other] for other in [*there, going] if other != place])]


def is_circle_free(count, pairs):
    piece = list(range(count + 1))
    for x, y in pairs:
        if piece[x] == piece[y]:
            return False
        piece = [piece[x] if mark == piece[y] else mark for mark in piece]
    return True


def tight(count, pairs, k):
    members = set()
    for part in parts(count):
        if len(part) >= 2 and Fraction(within(pairs, part), len(part) - 1) >= k:
            members |= part
    return [len(members), *sorted(members)]


def edges(pairs):
    return [len(pairs), *[end for pair in pairs for end in pair]]


def answer(count, pairs, call):
    """What a call that isn't a node, edge or cut answers on this graph."""
    number, *given = call
    if number == 3:
        return densest(count, pairs) if count else [-3]
    if number == 4:
        members = given[1:]
        fits = members and members == sorted(set(members)) and set(members) <= set(range(1, count + 1))
        return density(pairs, set(members)) if fits else [-1]
    if number == 5:
        return core(count, pairs, given[0])
    if number == 10:
        return tight(count, pairs, given[0]) if given[0] else [-1]
    alone = {6: lambda: cores(count, pairs), 7: lambda: peel(count, pairs), 8: lambda: turned(pairs),
             9: lambda: forests(count, pairs), 11: lambda: edges(pairs)}
    return alone[number]()


def answers(calls):
    """The answers of each call as a list of its own; each call is one too."""
    count = 0
    pairs = []
    told = []
    for call in calls:
        if call[0] == 0:
            told.append([count + 1 if count < 10 else -5])
            count = min(count + 1, 10)
        elif call[0] == 1:
            if len({call[1], call[2]} & set(range(1, count + 1))) < 2:
                told.append([-1])
            elif len(pairs) == 20:
                told.append([-5])
            else:
                told.append([len(pairs)])
                pairs = [*pairs, (call[1], call[2])]
        elif call[0] == 2:
            fits = call[1] < len(pairs)
            pairs = [pair for place, pair in enumerate(pairs) if place != call[1]]
            told.append([len(pairs) if fits else -2])
        else:
            told.append(answer(count, pairs, call))
    return told
