"""Every call compared with what the reference tells by other means, on graphs and on whole lists of calls."""

import unittest
from itertools import combinations, combinations_with_replacement, product
from random import Random

from tests import reference
from tests.asking import (ask, core, cores, cut, densest, density, edge, edges, forests, last, node, nodes, peel,
                          tell_edges, tight, turned)


def of_four_nodes():
    """All graphs of four nodes without several edges between the same two."""
    possible = list(combinations(range(1, 5), 2))
    return [pairs for size in range(len(possible) + 1) for pairs in combinations(possible, size)]


def of_three_nodes():
    """All graphs of three nodes with up to five edges."""
    possible = [(1, 2), (3, 1), (2, 3)]
    return [pairs for size in range(6) for pairs in combinations_with_replacement(possible, size)]


def some_pairs(chance, count, size):
    """Edges between so many nodes, of which some join the same two."""
    found = []
    for _ in range(size):
        if found and chance.randrange(3) == 0:
            found.append(chance.choice(found)[::chance.choice((1, -1))])
        else:
            found.append(tuple(chance.sample(range(1, count + 1), 2)))
    return found


class Graphs(unittest.TestCase):
    def check(self, count, pairs):
        built = [*nodes(count), *edges(*pairs)]
        calls = [densest(), cores(), peel(), turned(), forests(), tell_edges()]
        calls += [core(k) for k in range(6)]
        calls += [tight(k) for k in range(1, 5)]
        calls += [density(*sorted(part)) for part in reference.parts(count)[::1 + count][:8]]
        with self.subTest(count=count, pairs=pairs):
            # Asked in lists of their own, since one list has 40 calls at most.
            for call in calls:
                self.assertEqual(last(*built, call), reference.answer(count, list(pairs), call), call)

    def test_all_graphs_of_four_nodes(self):
        for pairs in of_four_nodes():
            self.check(4, pairs)

    def test_all_graphs_of_three_nodes(self):
        for pairs in of_three_nodes():
            self.check(3, pairs)

    def test_larger_graphs(self):
        chance = Random(20)
        for count in (5, 6, 7, 8, 9, 10, 10, 10):
            for size in (7, 13, 20):
                self.check(count, some_pairs(chance, count, size))


class EveryWay(unittest.TestCase):
    def check_turned(self, count, pairs):
        with self.subTest(pairs=pairs):
            told = last(*nodes(count), *edges(*pairs), turned())
            self.assertEqual(told, reference.turned_by_every_way(pairs))

    def check_forests(self, count, pairs):
        with self.subTest(pairs=pairs):
            told = last(*nodes(count), *edges(*pairs), forests())
            self.assertEqual(told, reference.forests_by_every_way(count, pairs))

    def test_turned_with_three_nodes_and_edges_in_every_order(self):
        for size in range(6):
            for pairs in product([(1, 2), (3, 1), (2, 3)], repeat=size):
                self.check_turned(3, pairs)

    def test_turned_with_more_nodes(self):
        chance = Random(8)
        for count in (4, 5, 6, 7, 8, 9, 10):
            for size in (4, 6, 8, 10):
                for _ in range(3):
                    self.check_turned(count, some_pairs(chance, count, size))

    def test_forests_with_all_graphs_of_four_nodes(self):
        for pairs in of_four_nodes():
            self.check_forests(4, pairs)

    def test_forests_with_all_graphs_of_three_nodes(self):
        for pairs in of_three_nodes():
            self.check_forests(3, pairs)

    def test_forests_with_five_nodes(self):
        chance = Random(9)
        for size in (4, 5, 6, 7):
            for _ in range(4):
                self.check_forests(5, some_pairs(chance, 5, size))


class Lists(unittest.TestCase):
    """Lists of up to 40 calls in any order, with what is refused among them."""

    def any_call(self, chance, top):
        low = chance.randrange(top + 2)
        high = chance.randrange(top + 2)
        makers = [node] * 3
        makers += [lambda: edge(low, high)] * 6
        makers += [lambda: cut(chance.randrange(8))] * 2
        makers += [lambda: density(*sorted(chance.sample(range(top + 2), chance.randrange(top + 1)))),
                   lambda: density(*[chance.randrange(top + 2) for _ in range(chance.randrange(4))]),
                   lambda: core(chance.randrange(5)), lambda: tight(chance.randrange(5)),
                   densest, cores, peel, turned, forests, tell_edges]
        return chance.choice(makers)()

    def check(self, calls):
        with self.subTest(calls=calls):
            self.assertEqual(ask(*calls), reference.answers(calls))

    def test_from_an_empty_graph(self):
        chance = Random(40)
        for length in (1, 2, 3, 5, 10, 20, 30, 40):
            for _ in range(8):
                self.check([self.any_call(chance, 5) for _ in range(length)])

    def test_behind_some_nodes(self):
        chance = Random(41)
        for count in (2, 3, 4, 6, 8, 10):
            for _ in range(8):
                self.check(nodes(count) + [self.any_call(chance, count) for _ in range(40 - count)])

    def test_behind_ten_nodes_and_20_edges(self):
        chance = Random(42)
        for _ in range(20):
            full = nodes(10) + edges(*some_pairs(chance, 10, 20))
            self.check(full + [self.any_call(chance, 10) for _ in range(10)])

    def test_all_that_asks_behind_each_cut(self):
        chance = Random(43)
        asking = [densest(), cores(), peel(), turned(), forests(), tight(2), tell_edges()]
        for count in (3, 4, 5):
            built = nodes(count) + edges(*some_pairs(chance, count, 7))
            for n in range(7):
                self.check(built + [*asking, cut(n), *asking, cut(7), *asking])
