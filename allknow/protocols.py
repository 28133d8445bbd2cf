"""Protocols in which each link carries what a formula makes of all that its sender has seen (part F)."""

from allknow.errors import KnowError
from allknow.formulas import BadFormula, Formula, TooLong
from allknow.networks import has_link, node_number, require_set
from allknow.parities import first_masks, is_odd, text_of
from allknow.sending import Sending, checked_transmissions
from allknow.spans import network_mask


class BadStep(KnowError):
    """A step of a protocol is wrong: the index of the first one, and why."""

    def __init__(self, number, reason):
        self.number = number
        self.reason = reason


class Relay:
    """A protocol that is carried out, under all assignments at once.

    A bit is kept as a column: a number with one binary digit for each assignment, in their order.
    """

    def __init__(self, network, steps):
        self._network = network
        self._count = 1 << network.variables
        self._seen = {}
        for node, masks in first_masks(network).items():
            self._seen[node] = [_odd_column(self._count, mask) for mask in masks]
        self._messages = [column for columns in self._seen.values() for column in columns]
        self._carried = []
        used = []
        for number, (link, text) in enumerate(steps):
            formula = _formula_of(text)
            reason = self._hindrance(link, formula, used)
            if reason is not None:
                raise BadStep(number, reason)
            self._carry(link, formula)
            used.append(link)

    def outputs(self, assignment):
        """The tuple of what the links carry, step by step, under an assignment."""
        return _digits(self._carried, network_mask(self._network, assignment))

    def observations(self, node, assignment):
        """The tuple of what a node has seen in the end under an assignment."""
        node_number(self._network, node)
        return _digits(self._seen[node], network_mask(self._network, assignment))

    def decoders(self):
        """The letters of the nodes that can tell all messages."""
        return "".join([node for node in self._network.node_letters() if self.confused(node) is None])

    def confused(self, nodes):
        """The first pair of assignments that a set of nodes takes for one another, or None."""
        require_set(self._network, nodes)
        seen = [column for node in nodes for column in self._seen[node]]
        views = [_digits(seen, row) for row in range(self._count)]
        truths = [_digits(self._messages, row) for row in range(self._count)]
        for first in range(self._count):
            for second in range(first + 1, self._count):
                if views[first] == views[second] and truths[first] != truths[second]:
                    return (text_of(first), text_of(second))
        return None

    def _hindrance(self, link, formula, used):
        """Why a step cannot be done behind those that used these links, a word, or None if it can."""
        if not has_link(self._network, link):
            return "link"
        if formula is None:
            return "formula"
        if link in used:
            return "used"
        seen = self._seen[self._network.links[link][0]]
        return "unavailable" if max(formula.indices(), default=-1) >= len(seen) else None

    def _carry(self, link, formula):
        """A link carries the value of a formula."""
        sender, receiver = self._network.links[link]
        full = (1 << self._count) - 1
        column = formula.column(dict(enumerate(self._seen[sender])), full)
        self._carried.append(column)
        self._seen[receiver].append(column)


def routed(network, transmissions):
    """The tuple of the steps that carry the same messages as transmissions, or None if they are no schedule."""
    sending = Sending(network)
    steps = []
    for transmission in checked_transmissions(network, transmissions):
        if sending.hindrance(transmission) is not None:
            return None
        link, origin, index = transmission
        # A node has its messages, and then those it received, in the order in which it sees their bits.
        seen = sending.had[network.links[link][0]]
        steps.append((link, str(seen.index((origin, index)))))
        sending.send(transmission)
    return tuple(steps)


def _formula_of(text):
    """The formula with this text, or None if it is none or too long."""
    try:
        return Formula(text)
    except (BadFormula, TooLong):
        return None


def _odd_column(count, mask):
    """The column that tells under which of so many assignments a parity is odd."""
    return sum([1 << row for row in range(count) if is_odd(mask, row)])


def _digits(columns, row):
    """The tuple of the bits that stand in columns for one assignment, True or False."""
    return tuple([((column >> row) & 1) == 1 for column in columns])
