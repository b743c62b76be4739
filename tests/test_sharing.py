"""turned, forests, and tight with promise 2 as far as it speaks of it."""

import unittest
from itertools import combinations

from tests.asking import ask, cut, densest, edge, edges, forests, last, node, nodes, tell_edges, tight, turned

GREATEST = 4294967295
TRIANGLE = [(1, 2), (2, 3), (1, 3)]
CLIQUE_OF_4 = list(combinations((1, 2, 3, 4), 2))
CLIQUE_OF_5 = list(combinations((1, 2, 3, 4, 5), 2))
RING_OF_10 = [(number, number % 10 + 1) for number in range(1, 11)]


def built(count, *pairs):
    return nodes(count) + edges(*pairs)


class Turned(unittest.TestCase):
    def of(self, count, *pairs):
        return last(*built(count, *pairs), turned())

    def test_without_nodes_and_without_edges(self):
        self.assertEqual(ask(turned(), node(), turned(), node(), turned()), [[0], [1], [0], [2], [0]])

    def test_one_edge_leads_to_its_lower_end(self):
        self.assertEqual(self.of(3, (2, 3)), [1, 2])
        self.assertEqual(self.of(3, (3, 2)), [1, 2])

    def test_the_way_an_edge_was_told_does_not_matter(self):
        self.assertEqual(self.of(3, (2, 1), (3, 2), (3, 1)), self.of(3, *TRIANGLE))

    def test_a_path(self):
        self.assertEqual(self.of(3, (1, 2), (2, 3)), [1, 1, 2])
        self.assertEqual(self.of(3, (2, 3), (1, 2)), [1, 2, 1])

    def test_a_ring_goes_round_one_way_by_its_first_edge(self):
        self.assertEqual(self.of(3, (1, 2), (2, 3), (1, 3)), [1, 1, 2, 3])
        self.assertEqual(self.of(3, (2, 3), (1, 2), (1, 3)), [1, 2, 1, 3])
        self.assertEqual(self.of(3, (1, 3), (2, 3), (1, 2)), [1, 1, 3, 2])

    def test_an_edge_leads_to_its_greater_end_where_it_must(self):
        star = [(1, 2), (1, 3), (1, 4)]
        self.assertEqual(self.of(4, *star), [1, 1, 3, 4])
        self.assertEqual(self.of(4, *reversed(star)), [1, 1, 3, 2])

    def test_an_earlier_edge_gives_way_to_later_ones(self):
        # Led to its lower end the first edge would make one too many of those behind it.
        self.assertEqual(self.of(3, (1, 3), (1, 2), (1, 2)), [1, 3, 1, 2])
        self.assertEqual(self.of(4, (3, 4), (1, 2), (2, 3), (1, 3)), [1, 4, 1, 2, 3])

    def test_an_earlier_edge_goes_ahead_of_later_ones(self):
        self.assertEqual(self.of(4, (1, 2), (1, 3), (1, 4), (2, 3)), [1, 1, 3, 4, 2])

    def test_several_ways_are_as_good_where_there_is_room(self):
        # Two must lead to some node; then two may lead to others as well.
        self.assertEqual(self.of(5, (1, 2), (1, 2), (1, 2), (4, 5), (4, 5), (3, 4)), [2, 1, 1, 2, 4, 4, 3])

    def test_several_edges_between_the_same_two(self):
        self.assertEqual(self.of(2, (1, 2), (2, 1)), [1, 1, 2])
        self.assertEqual(self.of(2, (2, 1), (1, 2), (2, 1)), [2, 1, 1, 2])
        self.assertEqual(self.of(2, *[(2, 1)] * 20), [10, *[1] * 10, *[2] * 10])

    def test_cliques(self):
        self.assertEqual(self.of(4, *CLIQUE_OF_4), [2, 1, 1, 4, 2, 2, 3])
        self.assertEqual(self.of(5, *CLIQUE_OF_5), [2, 1, 1, 4, 5, 2, 2, 5, 3, 3, 4])

    def test_ten_nodes_and_20_edges(self):
        self.assertEqual(self.of(10, *RING_OF_10), [1, *range(1, 11)])
        self.assertEqual(self.of(10, *RING_OF_10, *RING_OF_10),
                         [2, 1, 2, 3, 4, 5, 6, 7, 8, 9, 1, 2, 3, 4, 5, 6, 7, 8, 9, 10, 10])

    def test_after_a_cut(self):
        told = ask(*built(3, *TRIANGLE, (1, 3)), turned(), cut(0), turned(), cut(0), turned())
        self.assertEqual(told[7::2], [[2, 1, 2, 1, 3], [1, 2, 1, 3], [1, 1, 3]])

    def test_asking_changes_nothing(self):
        told = ask(*built(3, (3, 1), (2, 1)), turned(), turned(), tell_edges(), node(), edge(4, 1), turned())
        self.assertEqual(told[5:], [[1, 1, 2], [1, 1, 2], [2, 3, 1, 2, 1], [4], [2], [1, 1, 2, 4]])


class Forests(unittest.TestCase):
    def of(self, count, *pairs):
        return last(*built(count, *pairs), forests())

    def test_without_nodes_and_without_edges(self):
        self.assertEqual(ask(forests(), node(), forests(), node(), forests()), [[0], [1], [0], [2], [0]])
        self.assertEqual(self.of(10), [0])

    def test_one(self):
        self.assertEqual(self.of(2, (2, 1)), [1])
        self.assertEqual(self.of(6, (1, 2), (2, 3), (2, 4), (6, 5)), [1])

    def test_a_ring_needs_two(self):
        self.assertEqual(self.of(3, *TRIANGLE), [2])
        self.assertEqual(self.of(10, *RING_OF_10), [2])

    def test_cliques(self):
        self.assertEqual(self.of(4, *CLIQUE_OF_4), [2])
        self.assertEqual(self.of(5, *CLIQUE_OF_5), [3])
        self.assertEqual(self.of(6, *combinations(range(1, 7), 2)), [3])

    def test_several_edges_between_the_same_two(self):
        self.assertEqual(self.of(3, (1, 3), (3, 1), (1, 2)), [2])
        self.assertEqual(self.of(2, *[(1, 2)] * 20), [20])
        self.assertEqual(self.of(10, *[(1, 2)] * 7, (3, 4), (4, 5)), [7])

    def test_a_part_in_the_middle_decides(self):
        self.assertEqual(self.of(9, (1, 2), (2, 3), (3, 4), (3, 4), (3, 5), (4, 5), (4, 5), (5, 6), (8, 9)), [3])

    def test_ten_nodes_and_20_edges(self):
        self.assertEqual(self.of(10, *RING_OF_10, *RING_OF_10), [3])
        self.assertEqual(self.of(10, *RING_OF_10[1:], *RING_OF_10[1:]), [2])
        self.assertEqual(self.of(10, *RING_OF_10[1:], *RING_OF_10[1:], (1, 5)), [3])

    def test_after_a_cut(self):
        told = ask(*built(2, *[(1, 2)] * 3), forests(), cut(1), forests(), cut(0), forests(), cut(0), forests())
        self.assertEqual(told[5::2], [[3], [2], [1], [0]])
        self.assertEqual(ask(*built(3, *TRIANGLE), forests(), cut(2), forests())[6::2], [[2], [1]])

    def test_asking_changes_nothing(self):
        told = ask(*built(3, (3, 1), (2, 1)), forests(), forests(), tell_edges(), node(), edge(2, 3), forests())
        self.assertEqual(told[5:], [[1], [1], [2, 3, 1, 2, 1], [4], [2], [2]])


class Tight(unittest.TestCase):
    def of(self, count, pairs, k):
        return last(*built(count, *pairs), tight(k))

    def test_k_0_is_refused(self):
        self.assertEqual(ask(tight(0), node(), tight(0)), [[-1], [1], [-1]])
        self.assertEqual(self.of(3, TRIANGLE, 0), [-1])

    def test_a_refusal_leaves_all_as_it_was(self):
        told = ask(*built(3, (2, 1)), tight(0), tell_edges(), tight(1), densest(), node(), edge(1, 2))
        self.assertEqual(told[4:], [[-1], [1, 2, 1], [2, 1, 2], [1, 2, 2, 1, 2], [4], [1]])

    def test_without_nodes_and_without_edges(self):
        told = ask(tight(1), node(), tight(1), node(), tight(1), tight(GREATEST))
        self.assertEqual(told, [[0], [1], [0], [2], [0], [0]])
        self.assertEqual(self.of(10, [], 1), [0])

    def test_one_node_alone_is_never_a_part_that_counts(self):
        self.assertEqual(self.of(3, [(1, 2)], 1), [2, 1, 2])

    def test_k_1(self):
        self.assertEqual(self.of(6, [(1, 2), (2, 3), (6, 5)], 1), [5, 1, 2, 3, 5, 6])

    def test_k_2(self):
        self.assertEqual(self.of(6, [*CLIQUE_OF_4, (4, 5)], 2), [4, 1, 2, 3, 4])
        self.assertEqual(self.of(4, [*TRIANGLE, (3, 4)], 2), [0])
        self.assertEqual(self.of(4, [*TRIANGLE, (3, 1), (4, 3)], 2), [3, 1, 2, 3])

    def test_a_part_with_edges_to_spare_takes_in_others(self):
        # Within 1, 2 and 3 there are two edges, and three nodes but one are two.
        self.assertEqual(self.of(4, [(1, 2), (2, 1)], 1), [4, 1, 2, 3, 4])
        self.assertEqual(self.of(5, [(1, 2)] * 4, 2), [5, 1, 2, 3, 4, 5])
        self.assertEqual(self.of(5, [(1, 2)] * 3, 2), [2, 1, 2])

    def test_several_parts_are_put_together(self):
        pairs = [(1, 2), (1, 2), (3, 4), (5, 6), (6, 5)]
        self.assertEqual(self.of(7, pairs, 2), [4, 1, 2, 5, 6])

    def test_just_as_many_as_asked_for(self):
        pairs = [(1, 2), (2, 1), (2, 1), (2, 3), (3, 2)]
        self.assertEqual([self.of(3, pairs, k) for k in (1, 2, 3, 4)], [[3, 1, 2, 3], [3, 1, 2, 3], [2, 1, 2], [0]])

    def test_a_very_great_k(self):
        pairs = [(1, 2)] * 20
        self.assertEqual(self.of(10, pairs, 20), [2, 1, 2])
        self.assertEqual(self.of(10, pairs, 21), [0])
        self.assertEqual(self.of(10, pairs, GREATEST), [0])

    def test_ten_nodes_and_20_edges(self):
        self.assertEqual(self.of(10, RING_OF_10 * 2, 1), [10, *range(1, 11)])
        self.assertEqual(self.of(10, RING_OF_10 * 2, 2), [10, *range(1, 11)])
        self.assertEqual(self.of(10, RING_OF_10 * 2, 3), [0])

    def test_after_a_cut(self):
        told = ask(*built(4, (1, 2), (1, 2), (3, 4), (4, 3)), tight(2), cut(1), tight(2), cut(1), tight(2), tight(1))
        self.assertEqual(told[8:], [[4, 1, 2, 3, 4], [3], [2, 3, 4], [2], [0], [4, 1, 2, 3, 4]])

    def test_asking_changes_nothing(self):
        told = ask(*built(3, (3, 1)), tight(1), tight(1), tell_edges(), node(), edge(1, 4), tight(1))
        self.assertEqual(told[4:], [[2, 1, 3], [2, 1, 3], [1, 3, 1], [4], [1], [3, 1, 3, 4]])
