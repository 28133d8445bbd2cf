"""Sets of nodes: into which of them too few links lead, or just as many as needed (part D)."""

from allknow.errors import KnowError
from allknow.margins import entering, margins_of
from allknow.networks import node_number, require_link, require_set
from allknow.parities import mask_of, remainder


class NotFeasible(KnowError):
    """Some set of nodes is deficient."""


def deficient_sets(network):
    """The tuple of all deficient sets, in order."""
    return tuple(margins_of(network).deficient())


def tight_sets(network):
    """The tuple of all tight sets, in order."""
    return tuple(margins_of(network).tight())


def first_deficient(network):
    """The first deficient set, or None if there is none."""
    return margins_of(network).first_deficient()


def node_set(network, nodes):
    """The tuple (rank, demand, links, is_tight, is_deficient) of a set of nodes."""
    require_set(network, nodes)
    margins = margins_of(network)
    links = tuple(entering(network.links, nodes))
    beyond = margins.beyond[nodes]
    return (len(margins.spans[nodes]), margins.demands[nodes], links, beyond == 0, beyond < 0)


def around(network, node):
    """Of the tight sets with a node and a demand above 0 the first one, or None."""
    node_number(network, node)
    margins = feasible_margins(network)
    for nodes in margins.tight():
        if node in nodes and margins.demands[nodes] > 0:
            return nodes
    return None


def without(network, node, other):
    """The union of all tight sets with the one node and without the other, or None."""
    node_number(network, node)
    node_number(network, other)
    return _union_without(network, feasible_margins(network), node, other)


def can_carry(network, link):
    """The union of the tight sets that a link from U to W enters, or None, and the tuple of the
    indices of the messages of U that it can carry first."""
    require_link(network, link)
    sender, receiver = network.links[link]
    margins = feasible_margins(network)
    union = _union_without(network, margins, receiver, sender)
    # The receiver is in the union, so what it can derive by itself can be derived there.
    span = margins.spans[receiver if union is None else union]
    indices = []
    for index, text in enumerate(network.messages(sender)):
        if remainder(span, mask_of(text)):
            indices.append(index)
    return (union, tuple(indices))


def feasible_margins(network):
    """All sets of nodes of a network of which none must be deficient."""
    margins = margins_of(network)
    if not margins.is_feasible():
        raise NotFeasible("some set is deficient")
    return margins


def _union_without(network, margins, node, other):
    sets = [nodes for nodes in margins.tight() if node in nodes and other not in nodes]
    members = [letter for letter in network.node_letters() if any([letter in nodes for nodes in sets])]
    return "".join(members) if sets else None
