"""A graph of ten nodes and 20 edges at most, built and asked by a list of calls."""

NODE = 0
EDGE = 1
CUT = 2
DENSEST = 3
DENSITY = 4
CORE = 5
CORES = 6
PEEL = 7
TURNED = 8
FORESTS = 9
TIGHT = 10
EDGES = 11

MOST_NODES = 10
MOST_EDGES = 20

WRONG_NODES = -1
WRONG_K = -1
NO_SUCH_EDGE = -2
NO_NODES = -3
FULL = -5


class UnknownCall(ValueError):
    """A call's number that this program doesn't answer."""


class Graph:
    """What the calls so far have built: the nodes are 1 to node_count, ends has one pair for each edge."""

    def __init__(self):
        self.node_count = 0
        self.ends = []


def answers(calls):
    """For each call, in order, how many numbers are answered; then these."""
    graph = Graph()
    told = []
    place = 0
    while place < len(calls):
        behind = place + call_length(calls, place)
        numbers = answer(graph, calls[place:behind])
        told.append(len(numbers))
        told.extend(numbers)
        place = behind
    return told


def call_length(calls, place):
    """How many numbers the call that begins at this place takes up in the list."""
    number = calls[place]
    if number in (NODE, DENSEST, CORES, PEEL, TURNED, FORESTS, EDGES):
        return 1
    if number in (CUT, CORE, TIGHT):
        return 2
    if number == EDGE:
        return 3
    if number == DENSITY:
        return 2 + calls[place + 1]
    raise UnknownCall(f"call {number}")


def answer(graph, call):
    """What one call, whose number call_length knows, answers."""
    number = call[0]
    if number == NODE:
        return add_node(graph)
    if number == EDGE:
        return add_edge(graph, call[1], call[2])
    if number == CUT:
        return cut_edge(graph, call[1])
    if number == DENSEST:
        return tell_densest(graph)
    if number == DENSITY:
        return tell_density(graph, call[2:])
    if number == CORE:
        return counted(core_members(graph, call[1]))
    if number == CORES:
        return node_cores(graph)
    if number == PEEL:
        return tell_peel(graph)
    if number == TURNED:
        return tell_turned(graph)
    if number == FORESTS:
        return [fewest_forests(graph)]
    if number == TIGHT:
        return tell_tight(graph, call[1])
    return tell_edges(graph)


def add_node(graph):
    if graph.node_count == MOST_NODES:
        return [FULL]
    graph.node_count += 1
    return [graph.node_count]


def add_edge(graph, x, y):
    # The ends are looked at first: a wrong end is told ahead of too many edges.
    if not is_node(graph, x) or not is_node(graph, y) or x == y:
        return [WRONG_NODES]
    if len(graph.ends) == MOST_EDGES:
        return [FULL]
    graph.ends.append((x, y))
    return [len(graph.ends) - 1]


def cut_edge(graph, n):
    if n >= len(graph.ends):
        return [NO_SUCH_EDGE]
    graph.ends.pop(n)
    return [len(graph.ends)]


def tell_densest(graph):
    if graph.node_count == 0:
        return [NO_NODES]
    members = densest_part(graph)
    return lowest_terms(edges_within(graph, members), len(members)) + counted(members)


def tell_density(graph, nodes):
    if not is_part(graph, nodes):
        return [WRONG_NODES]
    within = edges_within(graph, nodes)
    return [within] + lowest_terms(within, len(nodes))


def tell_peel(graph):
    told = [graph.node_count]
    left = all_nodes(graph)
    while len(left) > 0:
        node = first_to_go(graph, left)
        told.extend([node, edges_to(graph, node, left)])
        left.remove(node)
    return told


def tell_turned(graph):
    most = fewest_at_most(graph)
    return [most] + first_turned(graph, most)


def tell_tight(graph, k):
    if k == 0:
        return [WRONG_K]
    return counted(tight_nodes(graph, k))


def tell_edges(graph):
    told = [len(graph.ends)]
    for x, y in graph.ends:
        told.extend([x, y])
    return told


def counted(members):
    return [len(members)] + members


def is_node(graph, x):
    return 1 <= x and x <= graph.node_count


def is_part(graph, nodes):
    """Whether these are one node or more, all of them there, and rising."""
    before = 0
    for node in nodes:
        if node <= before or not is_node(graph, node):
            return False
        before = node
    return len(nodes) > 0


def all_nodes(graph):
    return list(range(1, graph.node_count + 1))


def all_parts(graph):
    """Each part of the graph once, its nodes rising."""
    parts = []
    for node in all_nodes(graph):
        with_node = [part + [node] for part in parts]
        parts = parts + [[node]] + with_node
    return parts


def wider_parts(graph):
    """The parts of two nodes or more."""
    return [part for part in all_parts(graph) if len(part) > 1]


def edges_within(graph, part):
    count = 0
    for x, y in graph.ends:
        if x in part and y in part:
            count += 1
    return count


def edges_to(graph, node, part):
    """How many edges the node has to nodes of the part."""
    count = 0
    for x, y in graph.ends:
        if (x == node and y in part) or (y == node and x in part):
            count += 1
    return count


def lowest_terms(above, below):
    # By Euclid: what is left last divides both; of 0 and n that's n, which makes 0 and 1 of them.
    divisor = below
    rest = above
    while rest > 0:
        smaller = divisor % rest
        divisor = rest
        rest = smaller
    return [above // divisor, below // divisor]


def divided_upwards(above, below):
    return (above + below - 1) // below


def densest_part(graph):
    """All nodes that are in some part than which none is denser, rising."""
    most = 0
    size = 1
    members = []
    for part in all_parts(graph):
        within = edges_within(graph, part)
        # Fractions are compared crosswise, so that whole numbers do.
        gain = within * size - most * len(part)
        if gain > 0:
            most = within
            size = len(part)
            members = part
        elif gain == 0:
            members = members + part
    return sorted(set(members))


def core_members(graph, k):
    """The nodes of the core k, rising."""
    left = all_nodes(graph)
    staying = having_edges(graph, left, k)
    while len(staying) < len(left):
        left = staying
        staying = having_edges(graph, left, k)
    return left


def having_edges(graph, left, k):
    """Those that have k edges or more within those that are left."""
    return [node for node in left if edges_to(graph, node, left) >= k]


def node_cores(graph):
    """Each node's core, in order."""
    found = [0] * graph.node_count
    k = 1
    members = core_members(graph, k)
    while len(members) > 0:
        # Each core lies within the one before it, so the last that has a node is the greatest.
        for node in members:
            found[node - 1] = k
        k += 1
        members = core_members(graph, k)
    return found


def first_to_go(graph, left):
    """The node with the fewest edges to those that are left, which rise; of several the lowest."""
    counts = [edges_to(graph, node, left) for node in left]
    return left[counts.index(min(counts))]


def fewest_at_most(graph):
    """How many edges lead, at the least, to the node to which the most do."""
    # By Hakimi: the edges within a part lead into it however they are turned, and the densest part decides.
    return max([divided_upwards(edges_within(graph, part), len(part)) for part in all_parts(graph)], default=0)


def first_turned(graph, most):
    """For each edge the node to which it leads, the first way in which to no node more than most lead."""
    parts = all_parts(graph)
    # How many more edges than those that must lead into it each part can take. By Hakimi the edges that aren't
    # turned yet can be turned as long as no part has less than no room.
    room = [most * len(part) - edges_within(graph, part) for part in parts]
    led_to = []
    for x, y in graph.ends:
        low = min(x, y)
        high = max(x, y)
        end = low
        taking = places_parting(parts, low, high)
        if any([room[place] == 0 for place in taking]):
            end = high
            taking = places_parting(parts, high, low)
        for place in taking:
            room[place] -= 1
        led_to.append(end)
    return led_to


def places_parting(parts, inner, outer):
    """Where the parts stand that have the inner node and not the outer one."""
    return [place for place, part in enumerate(parts) if inner in part and outer not in part]


def fewest_forests(graph):
    """Into how many forests, at the least, all edges can be laid."""
    # By Nash-Williams: a forest takes one edge fewer than a part has nodes, and the part that needs the most decides.
    return max([divided_upwards(edges_within(graph, part), len(part) - 1) for part in wider_parts(graph)], default=0)


def tight_nodes(graph, k):
    """The nodes that are in some part of two nodes or more with k edges within for each node but one, rising."""
    members = []
    for part in wider_parts(graph):
        if edges_within(graph, part) >= k * (len(part) - 1):
            members.extend(part)
    return sorted(set(members))
