"""Injections: what somebody who knows all messages has to put in so that all nodes can come to know them (part G)."""

from allknow.errors import KnowError
from allknow.margins import margins_of
from allknow.networks import are_counts, require_set
from allknow.parities import mask_of
from allknow.sending import Sending, is_new_to_all


class BadCounts(KnowError):
    """Counts are not one number from 0 on for each node."""


class NotDisjoint(KnowError):
    """Two sets have a node in common."""


def minimum_counts(network):
    """The minimum counts, a tuple."""
    margins = margins_of(network)
    return _in_order(_minimum(margins))


def certificate(network):
    """The certificate, a tuple of sets."""
    margins = margins_of(network)
    counts = _minimum(margins)
    greatest = {}
    # The union of tight sets with a node is tight, too, and greater ones come later.
    for nodes in _tight_sets(margins, counts):
        for node in nodes:
            greatest[node] = nodes
    chosen = [greatest[node] for node in counts if counts[node] > 0]
    return tuple([nodes for nodes in margins.beyond if nodes in chosen])


def deficient_set(network, counts):
    """The first set whose supply is less than its demand, or None if the counts are sufficient."""
    by_node = _checked(network, counts)
    for nodes, beyond in margins_of(network).beyond.items():
        if beyond + _together(by_node, nodes) < 0:
            return nodes
    return None


def reduced_counts(network, counts):
    """The reduced counts, a tuple, or None if the counts are not sufficient."""
    if deficient_set(network, counts) is not None:
        return None
    return _in_order(_reduced(margins_of(network), _checked(network, counts)))


def lower_bound(network, sets):
    """The sum of the shortfalls of sets that have no nodes in common."""
    for nodes in sets:
        require_set(network, nodes)
    members = "".join(list(sets))
    if len(members) > len(set(members)):
        raise NotDisjoint("two sets have a node in common")
    beyond = margins_of(network).beyond
    return sum([-beyond[nodes] for nodes in sets])


def injections(network, counts):
    """The pair of the injections of counts and of the first schedule with them, or None."""
    needed = reduced_counts(network, counts)
    if needed is None:
        return None
    left = _checked(network, needed)
    sending = Sending(network)
    put_in = []
    for number, node in enumerate(network.node_letters()):
        for _ in range(needed[number]):
            message = _first_that_fits(network, sending.margins(), left, node)
            put_in.append((node, message))
            sending.learn(node, message)
            left[node] -= 1
    return (tuple(put_in), sending.finish())


def _checked(network, counts):
    """A dict of counts by nodes."""
    letters = network.node_letters()
    if not are_counts(counts, len(letters)):
        raise BadCounts(f"not one number from 0 on for each of {letters}")
    return dict(zip(letters, counts))


def _in_order(by_node):
    return tuple(by_node.values())


def _together(by_node, nodes):
    """The sum of the counts of the nodes of a set."""
    return sum([by_node[node] for node in nodes])


def _tight_sets(margins, by_node):
    """The list of the sets, in order, whose supply is just their demand."""
    return [nodes for nodes, beyond in margins.beyond.items() if beyond + _together(by_node, nodes) == 0]


def _reduced(margins, by_node):
    """Sufficient counts reduced."""
    counts = dict(by_node)
    for node in margins.letters:
        counts[node] = 0
        short = [-beyond - _together(counts, nodes) for nodes, beyond in margins.beyond.items() if node in nodes]
        counts[node] = max(0, max(short))
    return counts


def _minimum(margins):
    # No demand is greater than the rank of all messages, so as many at each node are sufficient. Reduced, they
    # have the least sum, and each of them is the least one that goes with those ahead of it.
    rank = len(margins.spans[margins.letters])
    return _reduced(margins, {node: rank for node in margins.letters})


def _first_that_fits(network, margins, left, node):
    """The first message that can be put in at a node so that what is left of the counts suffices behind it."""
    spans = [margins.spans[nodes] for nodes in _tight_sets(margins, left) if node in nodes]
    return [text for text in network.all_messages() if is_new_to_all(spans, mask_of(text))][0]
