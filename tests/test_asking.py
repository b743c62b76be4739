"""Promise 2 as far as densest and density go, and core."""

import unittest
from itertools import combinations

from tests.asking import ask, core, cut, densest, density, edge, edges, last, node, nodes

GREATEST = 4294967295
TRIANGLE = [(1, 2), (2, 3), (1, 3)]
CLIQUE_OF_4 = list(combinations((3, 4, 5, 6), 2))


class Densest(unittest.TestCase):
    def test_without_nodes(self):
        self.assertEqual(ask(densest()), [[-3]])

    def test_the_refusal_leaves_all_as_it_was(self):
        self.assertEqual(ask(densest(), node(), densest()), [[-3], [1], [0, 1, 1, 1]])

    def test_without_edges_all_nodes_are_in_it(self):
        self.assertEqual(last(*nodes(3), densest()), [0, 1, 3, 1, 2, 3])
        self.assertEqual(last(*nodes(10), densest()), [0, 1, 10, *range(1, 11)])

    def test_one_edge(self):
        self.assertEqual(last(*nodes(3), edge(3, 2), densest()), [1, 2, 2, 2, 3])

    def test_a_triangle_and_a_tail(self):
        self.assertEqual(last(*nodes(4), *edges(*TRIANGLE, (3, 4)), densest()), [1, 1, 4, 1, 2, 3, 4])

    def test_a_part_that_is_not_the_whole(self):
        self.assertEqual(last(*nodes(7), *edges((1, 2), (2, 3), *CLIQUE_OF_4), densest()), [3, 2, 4, 3, 4, 5, 6])

    def test_more_edges_in_all_do_not_make_a_part_denser(self):
        path = [(1, 2), (2, 3), (3, 4), (4, 5), (5, 6), (6, 7)]
        self.assertEqual(last(*nodes(9), *edges(*path, (8, 9), (9, 8)), densest()), [1, 1, 2, 8, 9])

    def test_several_edges_between_the_same_two(self):
        self.assertEqual(last(*nodes(4), *edges(*TRIANGLE, (3, 4), (4, 3), (3, 4)), densest()), [3, 2, 4, 1, 2, 3, 4])
        self.assertEqual(last(*nodes(2), *[edge(2, 1)] * 20, densest()), [10, 1, 2, 1, 2])

    def test_several_at_once_are_put_together(self):
        far_apart = [(1, 2), (1, 2), (5, 6), (6, 5), (3, 4)]
        self.assertEqual(last(*nodes(7), *edges(*far_apart), densest()), [1, 1, 4, 1, 2, 5, 6])

    def test_several_at_once_that_overlap(self):
        overlapping = [(1, 2), (2, 1), (2, 3), (1, 4)]
        self.assertEqual(last(*nodes(5), *edges(*overlapping), densest()), [1, 1, 4, 1, 2, 3, 4])

    def test_parts_that_share_one_node_are_denser_together(self):
        bow_tie = [(1, 2), (2, 3), (1, 3), (3, 4), (4, 5), (3, 5)]
        self.assertEqual(last(*nodes(6), *edges(*bow_tie), densest()), [6, 5, 5, 1, 2, 3, 4, 5])

    def test_several_at_once_of_different_sizes(self):
        pairs = [(5, 6), (5, 6), (1, 2), (2, 3), (1, 3), (7, 8)]
        self.assertEqual(last(*nodes(8), *edges(*pairs), densest()), [1, 1, 5, 1, 2, 3, 5, 6])

    def test_the_fraction_is_in_lowest_terms(self):
        six_of_four = list(combinations((1, 2, 3, 4), 2))
        self.assertEqual(last(*nodes(4), *edges(*six_of_four), densest())[:3], [3, 2, 4])
        two_of_four = [(1, 2), (3, 4)]
        self.assertEqual(last(*nodes(4), *edges(*two_of_four), densest()), [1, 2, 4, 1, 2, 3, 4])

    def test_after_a_cut(self):
        told = ask(*nodes(4), *edges((1, 2), (1, 2), (3, 4)), densest(), cut(0), densest())
        self.assertEqual((told[7], told[9]), ([1, 1, 2, 1, 2], [1, 2, 4, 1, 2, 3, 4]))

    def test_asking_changes_nothing(self):
        told = ask(*nodes(3), *edges(*TRIANGLE), densest(), densest(), node(), edge(1, 4))
        self.assertEqual(told[6:], [[1, 1, 3, 1, 2, 3], [1, 1, 3, 1, 2, 3], [4], [3]])


class Density(unittest.TestCase):
    def of(self, *members):
        return last(*nodes(7), *edges((1, 2), (2, 1), *CLIQUE_OF_4), density(*members))

    def test_of_parts(self):
        self.assertEqual(self.of(1, 2), [2, 1, 1])
        self.assertEqual(self.of(3, 4, 5), [3, 1, 1])
        self.assertEqual(self.of(1, 2, 3), [2, 2, 3])
        self.assertEqual(self.of(1, 2, 3, 4, 5, 6, 7), [8, 8, 7])

    def test_in_lowest_terms(self):
        self.assertEqual(self.of(3, 4, 5, 6), [6, 3, 2])
        self.assertEqual(self.of(1, 2, 3, 7), [2, 1, 2])
        self.assertEqual(self.of(1, 2, 3, 4, 5, 6), [8, 4, 3])

    def test_of_nothing_within_is_0_and_1(self):
        self.assertEqual(self.of(7), [0, 0, 1])
        self.assertEqual(self.of(1), [0, 0, 1])
        self.assertEqual(self.of(1, 3, 7), [0, 0, 1])

    def test_all_ten_nodes_and_20_edges(self):
        told = last(*nodes(10), *[edge(1, 10)] * 20, density(*range(1, 11)))
        self.assertEqual(told, [20, 2, 1])

    def test_of_none(self):
        self.assertEqual(self.of(), [-1])
        self.assertEqual(ask(density()), [[-1]])

    def test_of_nodes_that_are_not_there(self):
        for members in ((0,), (8,), (0, 1), (1, 8), (1, 2, GREATEST)):
            self.assertEqual(self.of(*members), [-1], members)
        self.assertEqual(ask(density(1)), [[-1]])

    def test_of_nodes_that_do_not_rise(self):
        for members in ((2, 1), (1, 1), (1, 3, 2), (1, 2, 2), (7, 7), (2, 1, 3)):
            self.assertEqual(self.of(*members), [-1], members)

    def test_of_twenty_numbers(self):
        self.assertEqual(last(*nodes(10), density(*range(1, 21))), [-1])
        self.assertEqual(last(*nodes(10), density(*[1] * 20)), [-1])
        self.assertEqual(last(*nodes(10), density(*range(1, 11), *range(1, 11))), [-1])

    def test_several_faults_at_once(self):
        self.assertEqual(self.of(9, 8, 8), [-1])

    def test_a_refusal_leaves_all_as_it_was(self):
        told = ask(*nodes(2), edge(1, 2), density(), density(2, 1), density(3), density(1, 2), edge(1, 2), node())
        self.assertEqual(told[3:], [[-1], [-1], [-1], [1, 1, 2], [1], [3]])


class Core(unittest.TestCase):
    def test_without_nodes(self):
        self.assertEqual(ask(core(0), core(1), core(GREATEST)), [[0], [0], [0]])

    def test_core_0_is_all_nodes(self):
        self.assertEqual(ask(*nodes(4), core(0), edge(1, 2), core(0))[4::2], [[4, 1, 2, 3, 4]] * 2)

    def test_core_1_is_the_nodes_with_edges(self):
        self.assertEqual(last(*nodes(5), *edges((1, 4), (4, 5)), core(1)), [3, 1, 4, 5])

    def test_those_that_go_take_others_along(self):
        path = [(1, 2), (2, 3), (3, 4), (4, 5), (5, 6)]
        self.assertEqual(last(*nodes(6), *edges(*path), core(2)), [0])
        tail = [(4, 5), (5, 6), (3, 4)]
        self.assertEqual(last(*nodes(6), *edges(*TRIANGLE, *tail), core(2)), [3, 1, 2, 3])

    def test_several_edges_between_the_same_two_all_count(self):
        told = ask(*nodes(3), *edges((1, 3), (3, 1), (1, 3), (1, 2)), core(3), core(4))
        self.assertEqual(told[7:], [[2, 1, 3], [0]])

    def test_just_as_many_as_k_stay(self):
        told = ask(*nodes(7), *edges((1, 2), (2, 3), *CLIQUE_OF_4), core(1), core(2), core(3), core(4))
        self.assertEqual(told[15:], [[6, *range(1, 7)], [4, 3, 4, 5, 6], [4, 3, 4, 5, 6], [0]])

    def test_a_very_great_k(self):
        told = ask(*nodes(2), *[edge(1, 2)] * 20, core(20), core(21), core(GREATEST))
        self.assertEqual(told[22:], [[2, 1, 2], [0], [0]])

    def test_may_have_several_pieces(self):
        self.assertEqual(last(*nodes(7), *edges(*TRIANGLE, (5, 6), (6, 7), (5, 7), (3, 4), (4, 5)), core(2)),
                         [7, 1, 2, 3, 4, 5, 6, 7])
        self.assertEqual(last(*nodes(7), *edges(*TRIANGLE, (5, 6), (6, 7), (5, 7), (3, 4)), core(2)),
                         [6, 1, 2, 3, 5, 6, 7])

    def test_asking_changes_nothing(self):
        told = ask(*nodes(3), edge(1, 2), core(2), core(1), core(0), node(), edge(1, 2))
        self.assertEqual(told[4:], [[0], [2, 1, 2], [3, 1, 2, 3], [4], [1]])
