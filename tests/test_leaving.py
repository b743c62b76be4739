"""cores, peel and edges."""

import unittest
from itertools import combinations

from tests.asking import ask, core, cores, cut, edge, edges, last, node, nodes, peel, tell_edges

TRIANGLE = [(1, 2), (2, 3), (1, 3)]
CLIQUE_OF_4 = list(combinations((3, 4, 5, 6), 2))


def built(count, *pairs):
    return nodes(count) + edges(*pairs)


class Cores(unittest.TestCase):
    def test_without_nodes_no_number_is_answered(self):
        self.assertEqual(ask(cores(), cores(), node(), cores()), [[], [], [1], [0]])

    def test_without_edges(self):
        self.assertEqual(last(*nodes(3), cores()), [0, 0, 0])
        self.assertEqual(last(*nodes(10), cores()), [0] * 10)

    def test_a_path(self):
        self.assertEqual(last(*built(5, (1, 2), (2, 3), (3, 4)), cores()), [1, 1, 1, 1, 0])

    def test_the_nodes_stand_in_order_not_by_their_cores(self):
        self.assertEqual(last(*built(7, (1, 2), (2, 3), *CLIQUE_OF_4), cores()), [1, 1, 3, 3, 3, 3, 0])

    def test_many_edges_to_those_that_go_do_not_help(self):
        star = [(1, other) for other in range(2, 9)]
        self.assertEqual(last(*built(9, *star), cores()), [1] * 8 + [0])

    def test_those_that_go_take_others_along(self):
        pairs = [*TRIANGLE, (3, 4), (4, 5), (5, 6)]
        self.assertEqual(last(*built(6, *pairs), cores()), [2, 2, 2, 1, 1, 1])

    def test_several_edges_between_the_same_two_all_count(self):
        self.assertEqual(last(*built(3, (1, 3), (3, 1), (1, 3), (1, 2)), cores()), [3, 1, 3])
        self.assertEqual(last(*built(3, *[(3, 2)] * 20), cores()), [0, 20, 20])

    def test_a_core_that_is_the_same_for_several_k(self):
        self.assertEqual(last(*built(4, *[(1, 2)] * 5, (3, 4)), cores()), [5, 5, 1, 1])

    def test_ten_nodes_and_20_edges(self):
        ring = [(number, number % 10 + 1) for number in range(1, 11)]
        self.assertEqual(last(*built(10, *ring, *ring), cores()), [4] * 10)
        two_cliques = [*combinations(range(1, 6), 2), *combinations(range(6, 11), 2)]
        self.assertEqual(last(*built(10, *two_cliques), cores()), [4] * 10)

    def test_after_a_cut(self):
        told = ask(*built(4, *TRIANGLE, (3, 4)), cores(), cut(1), cores(), cut(2), cores())
        self.assertEqual(told[8::2], [[2, 2, 2, 1], [1, 1, 1, 1], [1, 1, 1, 0]])

    def test_agrees_with_core(self):
        pairs = [(1, 2), (1, 2), *CLIQUE_OF_4, (2, 3), (7, 2), (7, 6), (8, 7)]
        found = last(*built(9, *pairs), cores())
        for k in range(6):
            members = [number for number in range(1, 10) if found[number - 1] >= k]
            self.assertEqual(last(*built(9, *pairs), core(k)), [len(members), *members], k)

    def test_asking_changes_nothing(self):
        told = ask(*built(3, (1, 2)), cores(), cores(), node(), edge(1, 4), cores())
        self.assertEqual(told[4:], [[1, 1, 0], [1, 1, 0], [4], [1], [1, 1, 0, 1]])


class Peel(unittest.TestCase):
    def test_without_nodes(self):
        self.assertEqual(ask(peel(), node(), peel()), [[0], [1], [1, 1, 0]])

    def test_without_edges_they_go_in_order(self):
        self.assertEqual(last(*nodes(3), peel()), [3, 1, 0, 2, 0, 3, 0])
        self.assertEqual(last(*nodes(10), peel())[1::2], list(range(1, 11)))

    def test_the_one_with_the_fewest_goes_first(self):
        self.assertEqual(last(*built(4, *TRIANGLE, (3, 4)), peel()), [4, 4, 1, 1, 2, 2, 1, 3, 0])

    def test_of_several_the_lowest(self):
        self.assertEqual(last(*built(3, *TRIANGLE), peel()), [3, 1, 2, 2, 1, 3, 0])
        self.assertEqual(last(*built(4, (4, 2), (3, 1)), peel()), [4, 1, 1, 3, 0, 2, 1, 4, 0])

    def test_only_edges_to_those_that_are_left_count(self):
        star = [(1, 2), (1, 3), (1, 4), (5, 6), (5, 6)]
        self.assertEqual(last(*built(6, *star), peel()), [6, 2, 1, 3, 1, 1, 1, 4, 0, 5, 2, 6, 0])

    def test_one_that_has_lost_its_edges_goes_ahead_of_lower_ones(self):
        path = [(5, 4), (4, 3), (3, 2), (2, 1)]
        self.assertEqual(last(*built(5, *path), peel()), [5, 1, 1, 2, 1, 3, 1, 4, 1, 5, 0])
        self.assertEqual(last(*built(5, (1, 5), (2, 3), (3, 4)), peel()), [5, 1, 1, 5, 0, 2, 1, 3, 1, 4, 0])

    def test_several_edges_between_the_same_two_all_count(self):
        self.assertEqual(last(*built(3, (1, 2), (2, 1), (2, 3)), peel()), [3, 3, 1, 1, 2, 2, 0])
        self.assertEqual(last(*built(2, *[(2, 1)] * 20), peel()), [2, 1, 20, 2, 0])

    def test_ten_nodes_and_20_edges(self):
        ring = [(number, number % 10 + 1) for number in range(1, 11)]
        told = last(*built(10, *ring, *ring), peel())
        self.assertEqual(told, [10, 1, 4, 2, 2, 3, 2, 4, 2, 5, 2, 6, 2, 7, 2, 8, 2, 9, 2, 10, 0])

    def test_each_edge_is_counted_once(self):
        pairs = [(1, 2), (1, 2), *CLIQUE_OF_4, (2, 3), (7, 2), (7, 6), (8, 7)]
        self.assertEqual(sum(last(*built(9, *pairs), peel())[2::2]), len(pairs))

    def test_after_a_cut(self):
        told = ask(*built(3, *TRIANGLE), peel(), cut(0), peel())
        self.assertEqual(told[6::2], [[3, 1, 2, 2, 1, 3, 0], [3, 1, 1, 2, 1, 3, 0]])
        told = ask(*built(4, *TRIANGLE, (3, 4)), cut(2), peel())
        self.assertEqual(told[-1], [4, 1, 1, 2, 1, 3, 1, 4, 0])

    def test_asking_changes_nothing(self):
        told = ask(*built(2, (1, 2)), peel(), peel(), node(), edge(1, 2), tell_edges())
        self.assertEqual(told[3:], [[2, 1, 1, 2, 0], [2, 1, 1, 2, 0], [3], [1], [2, 1, 2, 1, 2]])


class Edges(unittest.TestCase):
    def test_without_nodes_and_without_edges(self):
        self.assertEqual(ask(tell_edges(), node(), node(), tell_edges()), [[0], [1], [2], [0]])

    def test_in_order_and_as_they_were_told(self):
        told = last(*built(4, (3, 1), (1, 2), (4, 3), (2, 4)), tell_edges())
        self.assertEqual(told, [4, 3, 1, 1, 2, 4, 3, 2, 4])

    def test_several_between_the_same_two_each_as_it_was_told(self):
        self.assertEqual(last(*built(2, (2, 1), (1, 2), (2, 1)), tell_edges()), [3, 2, 1, 1, 2, 2, 1])

    def test_ten_nodes_and_20_edges(self):
        told = last(*built(10, *[(10, 1)] * 19, (9, 10)), tell_edges())
        self.assertEqual(told, [20, *[10, 1] * 19, 9, 10])

    def test_after_a_cut_those_behind_come_one_forward(self):
        for n, left in ((0, [2, 3, 4, 1]), (1, [2, 1, 4, 1]), (2, [2, 1, 2, 3])):
            told = ask(*built(4, (2, 1), (2, 3), (4, 1)), cut(n), tell_edges(), edge(4, 3), tell_edges())
            self.assertEqual(told[7:], [[2], [2, *left], [2], [3, *left, 4, 3]], n)

    def test_a_refusal_leaves_all_as_it_was(self):
        told = ask(*built(2, (2, 1)), edge(1, 1), edge(3, 1), cut(1), tell_edges())
        self.assertEqual(told[3:], [[-1], [-1], [-2], [1, 2, 1]])
        told = ask(*built(3, *[(2, 1)] * 20), edge(1, 3), tell_edges())
        self.assertEqual(told[-2:], [[-5], [20, *[2, 1] * 20]])
