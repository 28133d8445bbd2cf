"""What one more link or message changes, which links can be spared, and which are the cheapest (part I)."""

from itertools import combinations

from allknow.errors import KnowError
from allknow.margins import Margins, entering, enters, first_spans, margins_of, suffices
from allknow.networks import NoLink, are_counts, is_count, is_link, is_message, node_number, require_set
from allknow.parities import first_masks, mask_of, spanned
from allknow.spans import BadParity


class BadCosts(KnowError):
    """Costs are not one integer from 0 on for each link."""


class BadWeights(KnowError):
    """Weights are out of order or below 1: the index of the first pair that is so."""

    def __init__(self, number):
        self.number = number


def is_feasible(network):
    """True if no set is deficient, otherwise False."""
    return margins_of(network).is_feasible()


def reduced(network):
    """The ascending tuple of the links that are left when each that can be is left out, or None."""
    if not is_feasible(network):
        return None
    spans = first_spans(network)
    kept = list(range(len(network.links)))
    for link in range(len(network.links)):
        others = [number for number in kept if number != link]
        if suffices(spans, [network.links[number] for number in others]):
            kept = others
    return tuple(kept)


def with_link(network, link):
    """True if the network with one more link, a text, is feasible, otherwise False."""
    if not is_link(len(network.nodes), link):
        raise NoLink(f"no link between two of {network.node_letters()}: {link!r}")
    return suffices(first_spans(network), list(network.links) + [link])


def helping_links(network):
    """The tuple of the texts of all single links with which the network is feasible."""
    letters = network.node_letters()
    links = [sender + receiver for sender in letters for receiver in letters if sender != receiver]
    return tuple([link for link in links if with_link(network, link)])


def with_message(network, node, message):
    """True if the network is feasible when a node has one more message, otherwise False."""
    node_number(network, node)
    if not is_message(network.variables, message):
        raise BadParity(message)
    spans = first_spans(network)
    spans[node] = spanned([mask_of(message)], spans[node])
    return suffices(spans, network.links)


def removable_messages(network):
    """The tuple of pairs (node, index) of the messages that can be left out, each of them alone."""
    everything = margins_of(network).spans[network.node_letters()]
    found = []
    for node in network.node_letters():
        for index in range(len(network.messages(node))):
            margins = _without_message(network, node, index)
            if margins.is_feasible() and len(margins.spans[network.node_letters()]) == len(everything):
                found.append((node, index))
    return tuple(found)


def cheapest(network, costs):
    """The pair of what the cheapest links that suffice cost and of their set, or None."""
    _check_costs(network, costs)
    margins = margins_of(network)
    if not margins.is_feasible():
        return None
    wanted = [(demand, entering(network.links, nodes)) for nodes, demand in margins.demands.items() if demand > 0]
    best = None
    # As no cost is below 0, the fewest links of those that cost least are as many as the demands of the single
    # nodes add up to [I2]; they come in order.
    for links in _rows_of_links(network, margins.needed()):
        cost = sum([costs[link] for link in links])
        if (best is None or cost < best[0]) and _are_enough(wanted, links):
            best = (cost, links)
    return best


def bound(network, costs, weights):
    """The bound of weights."""
    _check_costs(network, costs)
    _check_weights(network, weights)
    demands = margins_of(network).demands
    total = sum([demands[nodes] * weight for nodes, weight in weights])
    for link, cost in zip(network.links, costs):
        load = sum([weight for nodes, weight in weights if enters(link, nodes)])
        total -= max(0, load - cost)
    return total


def _check_costs(network, costs):
    if not are_counts(costs, len(network.links)):
        raise BadCosts(f"not one integer from 0 on for each of {len(network.links)} links")


def _check_weights(network, weights):
    for nodes, _ in weights:
        require_set(network, nodes)
    # Smaller sets come first, so this is behind none, but ahead of all.
    last = (0, "")
    for number, (nodes, weight) in enumerate(weights):
        if (len(nodes), nodes) <= last or not is_count(weight) or weight == 0:
            raise BadWeights(number)
        last = (len(nodes), nodes)


def _without_message(network, node, index):
    """The margins of the network without one of its messages."""
    masks = first_masks(network)
    del masks[node][index]
    return Margins({letter: spanned(row) for letter, row in masks.items()}, network.links)


def _rows_of_links(network, size):
    """The list of all sets of so many links, in order."""
    return list(combinations(range(len(network.links)), size))


def _are_enough(wanted, links):
    """True if of each row of numbers so many as are wanted of it are among the links."""
    for count, numbers in wanted:
        if len([number for number in numbers if number in links]) < count:
            return False
    return True
