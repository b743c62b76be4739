"""Promise 1: node, edge and cut."""

import unittest

from tests.asking import ask, core, cut, densest, density, edge, edges, last, node, nodes

GREATEST = 4294967295


def full():
    """Ten nodes and 20 edges, all of them between 1 and 2."""
    return nodes(10) + [edge(1, 2)] * 20


class Node(unittest.TestCase):
    def test_numbered_from_1_as_they_come(self):
        self.assertEqual(ask(node(), node(), node()), [[1], [2], [3]])

    def test_the_tenth_comes_and_the_eleventh_is_refused(self):
        self.assertEqual(ask(*nodes(11))[-2:], [[10], [-5]])

    def test_refused_again_and_again(self):
        self.assertEqual(ask(*nodes(13))[-3:], [[-5], [-5], [-5]])

    def test_a_refusal_leaves_ten(self):
        told = ask(*nodes(11), edge(1, 10), edge(1, 11), core(0))
        self.assertEqual(told[-3:], [[0], [-1], [10, *range(1, 11)]])

    def test_edges_do_not_count_as_nodes(self):
        self.assertEqual(last(*nodes(2), edge(1, 2), edge(1, 2), node()), [3])


class Edge(unittest.TestCase):
    def test_numbered_from_0_as_they_come(self):
        self.assertEqual(ask(*nodes(3), *edges((1, 2), (3, 2), (1, 3)))[3:], [[0], [1], [2]])

    def test_several_between_the_same_two_either_way_round(self):
        told = ask(*nodes(2), *edges((1, 2), (1, 2), (2, 1)), density(1, 2))
        self.assertEqual(told[2:], [[0], [1], [2], [3, 3, 2]])

    def test_the_20th_comes_and_the_21st_is_refused(self):
        self.assertEqual(ask(*nodes(2), *[edge(1, 2)] * 21)[-2:], [[19], [-5]])

    def test_a_refused_21st_leaves_20(self):
        told = ask(*nodes(3), *[edge(1, 2)] * 20, edge(1, 3), density(1, 2), density(1, 2, 3), cut(19))
        self.assertEqual(told[-4:], [[-5], [20, 10, 1], [20, 20, 3], [19]])

    def test_no_node_x(self):
        for x in (0, 3, 11, GREATEST):
            self.assertEqual(last(*nodes(2), edge(x, 1)), [-1], x)

    def test_no_node_y(self):
        for y in (0, 3, 11, GREATEST):
            self.assertEqual(last(*nodes(2), edge(1, y)), [-1], y)

    def test_no_nodes_at_all(self):
        self.assertEqual(ask(edge(1, 2), edge(0, 0)), [[-1], [-1]])

    def test_the_same_node_twice(self):
        self.assertEqual(ask(*nodes(2), edge(1, 1), edge(2, 2))[2:], [[-1], [-1]])

    def test_the_last_node_is_one(self):
        self.assertEqual(ask(*nodes(10), edge(10, 1), edge(1, 10))[10:], [[0], [1]])

    def test_a_node_that_comes_later_can_be_joined_then(self):
        self.assertEqual(ask(node(), edge(1, 2), node(), edge(1, 2)), [[1], [-1], [2], [0]])

    def test_wrong_ends_are_told_ahead_of_too_many_edges(self):
        told = ask(*full(), edge(1, 1), edge(0, 1), edge(1, 11), edge(11, 11), edge(1, 2))
        self.assertEqual(told[30:], [[-1], [-1], [-1], [-1], [-5]])

    def test_a_refusal_leaves_all_as_it_was(self):
        told = ask(*nodes(2), edge(1, 2), edge(1, 1), edge(3, 1), edge(1, 3), density(1, 2), edge(1, 2))
        self.assertEqual(told[3:], [[-1], [-1], [-1], [1, 1, 2], [1]])


class Cut(unittest.TestCase):
    def test_tells_how_many_are_left(self):
        self.assertEqual(ask(*nodes(2), *[edge(1, 2)] * 3, cut(0), cut(0), cut(0))[5:], [[2], [1], [0]])

    def left_by(self, n):
        """Whether each of the edges 1-2, 2-3 and 3-4 is there when n is cut."""
        told = ask(*nodes(4), *edges((1, 2), (2, 3), (3, 4)), cut(n), density(1, 2), density(2, 3), density(3, 4))
        self.assertEqual(told[7], [2])
        return [row[0] for row in told[8:]]

    def test_the_first(self):
        self.assertEqual(self.left_by(0), [0, 1, 1])

    def test_one_between(self):
        self.assertEqual(self.left_by(1), [1, 0, 1])

    def test_the_last(self):
        self.assertEqual(self.left_by(2), [1, 1, 0])

    def test_those_behind_come_one_forward(self):
        told = ask(*nodes(4), *edges((1, 2), (2, 3), (3, 4)), cut(0), cut(1), density(2, 3), density(3, 4))
        self.assertEqual(told[7:], [[2], [1], [1, 1, 2], [0, 0, 1]])

    def test_those_behind_the_last_are_not_there(self):
        for n in (2, 3, 20, GREATEST):
            self.assertEqual(last(*nodes(2), *[edge(1, 2)] * 2, cut(n)), [-2], n)

    def test_without_edges(self):
        self.assertEqual(ask(cut(0), node(), cut(0), cut(GREATEST)), [[-2], [1], [-2], [-2]])

    def test_a_number_that_was_there_before_a_cut(self):
        self.assertEqual(ask(*nodes(2), *[edge(1, 2)] * 2, cut(1), cut(1), cut(0), cut(0))[4:], [[1], [-2], [0], [-2]])

    def test_a_refusal_leaves_all_as_it_was(self):
        told = ask(*nodes(3), *edges((1, 2), (2, 3)), cut(2), density(1, 2), density(2, 3), edge(1, 3))
        self.assertEqual(told[5:], [[-2], [1, 1, 2], [1, 1, 2], [2]])

    def test_the_20th_of_20(self):
        self.assertEqual(ask(*full(), cut(20), cut(19), cut(19))[30:], [[-2], [19], [-2]])

    def test_makes_room_for_one_more(self):
        told = ask(*full(), edge(1, 2), cut(3), edge(2, 3), edge(1, 2), density(1, 2))
        self.assertEqual(told[30:], [[-5], [19], [19], [-5], [19, 19, 2]])

    def test_nodes_stay(self):
        self.assertEqual(last(*nodes(2), edge(1, 2), cut(0), densest()), [0, 1, 2, 1, 2])
