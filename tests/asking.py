"""Writes calls as the interface wants them, and tells the answers call by call."""

from denseparts.graphs import answers

NUMBERS = {"node": 0, "edge": 1, "cut": 2, "densest": 3, "density": 4, "core": 5, "cores": 6, "peel": 7, "turned": 8,
           "forests": 9, "tight": 10, "edges": 11}


def node():
    return [NUMBERS["node"]]


def edge(x, y):
    return [NUMBERS["edge"], x, y]


def cut(n):
    return [NUMBERS["cut"], n]


def densest():
    return [NUMBERS["densest"]]


def density(*nodes):
    return [NUMBERS["density"], len(nodes), *nodes]


def core(k):
    return [NUMBERS["core"], k]


def cores():
    return [NUMBERS["cores"]]


def peel():
    return [NUMBERS["peel"]]


def turned():
    return [NUMBERS["turned"]]


def forests():
    return [NUMBERS["forests"]]


def tight(k):
    return [NUMBERS["tight"], k]


def tell_edges():
    return [NUMBERS["edges"]]


def nodes(count):
    return [node()] * count


def edges(*pairs):
    return [edge(x, y) for x, y in pairs]


def flat(calls):
    return [number for call in calls for number in call]


def rows(told):
    """The answers of each call as a list of its own, without the counts."""
    found = []
    place = 0
    while place < len(told):
        behind = place + 1 + told[place]
        if behind > len(told):
            raise ValueError(f"at {place} more numbers are told than there are: {told}")
        found.append(told[place + 1:behind])
        place = behind
    return found


def ask(*calls):
    found = rows(answers(flat(calls)))
    if len(found) != len(calls):
        raise ValueError(f"{len(found)} answers to {len(calls)} calls")
    return found


def last(*calls):
    return ask(*calls)[-1]
