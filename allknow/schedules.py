"""Schedules: transmissions that carry first messages unchanged (part E)."""

from allknow.margins import Margins, enters
from allknow.networks import require_link, require_message
from allknow.parities import first_masks, mask_of, remainder, spanned


class Sending:
    """What the nodes of a network have, and which links are unused, while messages are sent."""

    def __init__(self, network):
        self.network = network
        self.unused = list(range(len(network.links)))
        self.had = {}
        self.spans = {}
        for node, masks in first_masks(network).items():
            self.had[node] = [(node, index) for index in range(len(masks))]
            self.spans[node] = spanned(masks)

    def hindrance(self, transmission):
        """Why a transmission of the network is not possible, a word, or None if it is."""
        link, origin, index = transmission
        if link not in self.unused:
            return "used"
        sender, receiver = self.network.links[link]
        if (origin, index) not in self.had[sender]:
            return "missing"
        if remainder(self.spans[receiver], self._mask(origin, index)) == 0:
            return "known"
        return None

    def send(self, transmission):
        """A possible transmission takes place."""
        link, origin, index = transmission
        _, receiver = self.network.links[link]
        self.unused.remove(link)
        self.had[receiver].append((origin, index))
        self.spans[receiver] = spanned([self._mask(origin, index)], self.spans[receiver])

    def margins(self):
        """The sets of nodes, with what the nodes have now and the links that are unused."""
        return Margins(self.spans, [self.network.links[link] for link in self.unused])

    def is_over(self):
        """True if each node can derive all messages, otherwise False."""
        everything = [mask_of(text) for text in self.network.all_messages()]
        return all([len(spanned(everything, span)) == len(span) for span in self.spans.values()])

    def next_ones(self):
        """The list of the possible transmissions, in order, after which no set is deficient."""
        margins = self.margins()
        if margins.first_deficient() is not None:
            return []
        found = []
        for link in self.unused:
            text = self.network.links[link]
            # A tight set that the link enters becomes deficient, unless its demand falls, too.
            spans = [margins.spans[nodes] for nodes in margins.tight() if enters(text, nodes)]
            for origin, index in sorted(self.had[text[0]]):
                mask = self._mask(origin, index)
                if self.hindrance((link, origin, index)) is None and _is_new_to_all(spans, mask):
                    found.append((link, origin, index))
        return found

    def _mask(self, origin, index):
        return mask_of(self.network.messages(origin)[index])


def first_schedule(network):
    """The first of all complete schedules, or None if there is none."""
    sending = Sending(network)
    schedule = []
    next_ones = sending.next_ones()
    while next_ones:
        schedule.append(next_ones[0])
        sending.send(next_ones[0])
        next_ones = sending.next_ones()
    return tuple(schedule) if sending.is_over() else None


def is_complete(network, transmissions):
    """True if transmissions are a complete schedule, otherwise False."""
    sending = _sent(network, _checked(network, transmissions))
    return sending is not None and sending.is_over()


def next_transmissions(network, transmissions):
    """The tuple of the transmissions that can come next, or None if those told are no schedule."""
    sending = _sent(network, _checked(network, transmissions))
    return None if sending is None else tuple(sending.next_ones())


def schedule_fault(network, transmissions):
    """The tuple (index, reason, nodes) of the first transmission with which something is wrong, or None."""
    sending = Sending(network)
    for number, transmission in enumerate(_checked(network, transmissions)):
        reason = sending.hindrance(transmission)
        if reason is not None:
            return (number, reason, None)
        sending.send(transmission)
        nodes = sending.margins().first_deficient()
        if nodes is not None:
            return (number, "deficient", nodes)
    return None


def holdings(network, transmissions):
    """For each node the pairs (origin, index) of what it has after transmissions, or None if they are no schedule."""
    sending = _sent(network, _checked(network, transmissions))
    if sending is None:
        return None
    return tuple([tuple(sending.had[node]) for node in network.node_letters()])


def tree(network, transmissions, origin, index):
    """The pair of the indices of the transmissions that carry a message and of the nodes that have it after them."""
    checked = _checked(network, transmissions)
    require_message(network, origin, index)
    sending = _sent(network, checked)
    if sending is None:
        return None
    message = (origin, index)
    carrying = [number for number, transmission in enumerate(checked) if transmission[1:] == message]
    holders = [node for node in network.node_letters() if message in sending.had[node]]
    return (tuple(carrying), "".join(holders))


def time_slots(network, transmissions):
    """The tuple of the time slots of transmissions, or None if they are no schedule."""
    checked = _checked(network, transmissions)
    if _sent(network, checked) is None:
        return None
    slots = []
    brought = {}
    for link, origin, index in checked:
        sender, receiver = network.links[link]
        # Nothing brings a message to its own origin, so there it counts 0.
        slot = brought.get((sender, origin, index), 0) + 1
        brought[(receiver, origin, index)] = slot
        slots.append(slot)
    return tuple(slots)


def _checked(network, transmissions):
    """The list of transmissions, as tuples, each of which must be one of the network."""
    checked = []
    for link, origin, index in transmissions:
        require_link(network, link)
        require_message(network, origin, index)
        checked.append((link, origin, index))
    return checked


def _sent(network, checked):
    """What it is like after transmissions, or None if they are no schedule."""
    sending = Sending(network)
    for transmission in checked:
        if sending.hindrance(transmission) is not None:
            return None
        sending.send(transmission)
    return sending


def _is_new_to_all(spans, mask):
    """True if a parity can be derived from none of the spans, otherwise False."""
    return all([remainder(span, mask) != 0 for span in spans])
