"""Sets of nodes: into which of them too few links lead, or just as many as needed (part D)."""

from allknow.errors import KnowError
from allknow.margins import Margins, entering
from allknow.networks import node_number, require_link, require_set
from allknow.parities import first_masks, mask_of, remainder, spanned


class NotFeasible(KnowError):
    """Some set of nodes is deficient."""


def deficient_sets(network):
    """The tuple of all deficient sets, in order."""
    return tuple(_first_margins(network).deficient())


def tight_sets(network):
    """The tuple of all tight sets, in order."""
    return tuple(_first_margins(network).tight())


def first_deficient(network):
    """The first deficient set, or None if there is none."""
    return _first_margins(network).first_deficient()


def node_set(network, nodes):
    """The tuple (rank, demand, links, is_tight, is_deficient) of a set of nodes."""
    require_set(network, nodes)
    margins = _first_margins(network)
    links = tuple(entering(network.links, nodes))
    beyond = margins.beyond[nodes]
    return (len(margins.spans[nodes]), margins.demands[nodes], links, beyond == 0, beyond < 0)


def around(network, node):
    """Of the tight sets with a node and a demand above 0 the first one, or None."""
    node_number(network, node)
    margins = _feasible_margins(network)
    for nodes in margins.tight():
        if node in nodes and margins.demands[nodes] > 0:
            return nodes
    return None


def without(network, node, other):
    """The union of all tight sets with the one node and without the other, or None."""
    node_number(network, node)
    node_number(network, other)
    return _union_without(network, _feasible_margins(network), node, other)


def can_carry(network, link):
    """The union of the tight sets that a link from U to W enters, or None, and the tuple of the
    indices of the messages of U that it can carry first."""
    require_link(network, link)
    sender, receiver = network.links[link]
    margins = _feasible_margins(network)
    union = _union_without(network, margins, receiver, sender)
    # The receiver is in the union, so what it can derive by itself can be derived there.
    span = margins.spans[receiver if union is None else union]
    indices = []
    for index, text in enumerate(network.messages(sender)):
        if remainder(span, mask_of(text)):
            indices.append(index)
    return (union, tuple(indices))


def _first_margins(network):
    spans = {node: spanned(masks) for node, masks in first_masks(network).items()}
    return Margins(spans, network.links)


def _feasible_margins(network):
    margins = _first_margins(network)
    if margins.first_deficient() is not None:
        raise NotFeasible("some set is deficient")
    return margins


def _union_without(network, margins, node, other):
    sets = [nodes for nodes in margins.tight() if node in nodes and other not in nodes]
    members = [letter for letter in network.node_letters() if any([letter in nodes for nodes in sets])]
    return "".join(members) if sets else None
