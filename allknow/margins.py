"""What sets of nodes can derive together, and how many links enter them (part D).

While messages are sent the same is asked again and again, so what the nodes have, and which
links are left, is handed in here.
"""

from itertools import combinations

from allknow.parities import first_masks, remainder, spanned


class Margins:
    """All sets of nodes, in order: what each can derive, and how many links enter it beyond its demand.

    The nodes come with the span of what they have, in a dict; the links are texts.
    """

    def __init__(self, node_spans, links):
        letters = "".join(list(node_spans))
        self.letters = letters
        self.spans = {}
        for nodes in ordered_sets(letters):
            smaller = self.spans.get(nodes[:-1], [])
            self.spans[nodes] = spanned(node_spans[nodes[-1]], smaller)
        self.demands = {}
        self.beyond = {}
        for nodes, span in self.spans.items():
            self.demands[nodes] = len(self.spans[letters]) - len(span)
            self.beyond[nodes] = len(entering(links, nodes)) - self.demands[nodes]

    def deficient(self):
        """The list of the sets that fewer links enter than their demand."""
        return [nodes for nodes, beyond in self.beyond.items() if beyond < 0]

    def tight(self):
        """The list of the sets that just as many links enter as their demand."""
        return [nodes for nodes, beyond in self.beyond.items() if beyond == 0]

    def first_deficient(self):
        """The first deficient set, or None if there is none."""
        for nodes, beyond in self.beyond.items():
            if beyond < 0:
                return nodes
        return None

    def is_feasible(self):
        """True if no set is deficient, otherwise False."""
        return self.first_deficient() is None

    def needed(self):
        """What the demands of the single nodes add up to."""
        return sum([self.demands[node] for node in self.letters])

    def tolerance(self):
        """By how many links at least the sets with a demand are entered beyond it; None if there are none."""
        beyond = [self.beyond[nodes] for nodes, demand in self.demands.items() if demand > 0]
        return min(beyond, default=None)

    def tolerance_after(self, link, mask):
        """The same when a link, a text, has carried a parity that its sender can derive."""
        beyond = []
        for nodes, demand in self.demands.items():
            # Where the sender is in the set, too, the set can derive the parity already: nothing changes.
            is_entered = enters(link, nodes)
            is_new = is_entered and remainder(self.spans[nodes], mask) != 0
            if demand > (1 if is_new else 0):
                beyond.append(self.beyond[nodes] - (1 if is_entered and not is_new else 0))
        return min(beyond, default=None)


def first_spans(network):
    """For each node, by its letter, the span of its messages."""
    return {node: spanned(masks) for node, masks in first_masks(network).items()}


def margins_of(network):
    """All sets of nodes of a network, with the first messages and all links."""
    return Margins(first_spans(network), network.links)


def suffices(node_spans, links):
    """True if no set of nodes is deficient with these spans and links, otherwise False."""
    return Margins(node_spans, links).is_feasible()


def ordered_sets(letters):
    """The list of all sets of nodes, in order."""
    sets = []
    for size in range(1, len(letters) + 1):
        for chosen in combinations(letters, size):
            sets.append("".join(chosen))
    return sets


def enters(link, nodes):
    """True if a link enters a set of nodes, both told by their texts."""
    return link[0] not in nodes and link[1] in nodes


def enters_any(link, sets):
    """True if a link enters one of some sets of nodes."""
    return any([enters(link, nodes) for nodes in sets])


def entering(links, nodes):
    """The ascending list of the numbers of the links that enter a set of nodes."""
    return [number for number, link in enumerate(links) if enters(link, nodes)]
