"""Sessions: what happens in a network while messages are sent, and links are closed and opened (part K)."""

from allknow.errors import KnowError
from allknow.margins import suffices
from allknow.networks import MOST_LINKS, MOST_MESSAGES
from allknow.networks import Network, NoLink, is_link, is_message, node_number, require_link, require_message
from allknow.parities import remainder
from allknow.sending import Sending
from allknow.spans import BadParity, network_mask

MOST_EVENTS = 60

# Of how many elements an event is, by its first one.
EVENT_LENGTHS = {"sent": 4, "lost": 2, "closed": 2, "opened": 2, "learned": 3, "added": 2}


class BadEvent(KnowError):
    """An event cannot take place: why."""

    def __init__(self, reason):
        self.reason = reason


class Rejected(KnowError):
    """One of several events cannot take place: the index of the first one."""

    def __init__(self, number):
        self.number = number


class Session:
    """What happens in a network, event by event."""

    def __init__(self, network):
        self._first_network = network
        self._events = []
        self._begin()

    def record(self, event):
        """Records an event; returns how many transmissions are needed then, None if some set is deficient."""
        told = tuple(event)
        self._check(told)
        if len(self._events) >= MOST_EVENTS:
            raise BadEvent("full")
        self._events.append(told)
        self._take(told)
        return self.remaining()

    def undo(self):
        """Takes the last event back and returns True; False if there is none."""
        if not self._events:
            return False
        del self._events[-1]
        self._begin()
        for event in self._events:
            self._take(event)
        return True

    def remaining(self):
        """How many transmissions are needed, None if some set is deficient."""
        margins = self._sending.margins()
        return margins.needed() if margins.is_feasible() else None

    def first_deficient(self):
        """The first deficient set, or None."""
        return self._sending.margins().first_deficient()

    def next_transmission(self):
        """The first possible transmission after which no set is deficient, or None."""
        next_ones = self._sending.next_ones()
        return next_ones[0] if next_ones else None

    def holdings(self, node):
        """The tuple of pairs (origin, index) of what a node has, in the order in which it got them."""
        node_number(self._network, node)
        return tuple(self._sending.had[node])

    def knows(self, node, parity):
        """True if a node can derive a parity from what it has, otherwise False."""
        node_number(self._network, node)
        mask = network_mask(self._network, parity)
        return remainder(self._sending.spans[node], mask) == 0

    def can_lose(self, link):
        """True if no set would be deficient if a link were not free, otherwise False."""
        require_link(self._network, link)
        others = [text for number, text in self._sending.free.items() if number != link]
        return suffices(self._sending.spans, others)

    def links(self):
        """The tuple of the words of all links."""
        return tuple(self._words)

    def network(self):
        """The network with all links, and with the messages that nodes learned."""
        return self._network

    def journal(self):
        """The tuple of the events that are recorded and not undone."""
        return tuple(self._events)

    def _begin(self):
        """All is as it was ahead of all events."""
        self._network = self._first_network
        self._sending = Sending(self._network)
        self._words = ["free"] * len(self._network.links)

    def _check(self, event):
        """Raises what is due first if an event cannot take place."""
        # In a dict the first element could not be looked up if it were a list.
        if not event or event[0] not in list(EVENT_LENGTHS):
            raise BadEvent("word")
        if len(event) != EVENT_LENGTHS[event[0]]:
            raise BadEvent("length")
        if event[0] == "sent":
            self._check_sent(event[1:])
        elif event[0] == "learned":
            self._check_learned(event[1], event[2])
        elif event[0] == "added":
            self._check_added(event[1])
        else:
            self._check_link(event[0], event[1])

    def _check_sent(self, transmission):
        link, origin, index = transmission
        require_link(self._network, link)
        require_message(self._network, origin, index)
        if self._words[link] != "free":
            raise BadEvent(self._words[link])
        reason = self._sending.hindrance(transmission)
        if reason is not None:
            raise BadEvent(reason)

    def _check_learned(self, node, message):
        own = self._network.messages(node)
        if not is_message(self._network.variables, message):
            raise BadParity(message)
        if len(own) >= MOST_MESSAGES:
            raise BadEvent("many")

    def _check_added(self, link):
        if not is_link(len(self._network.nodes), link):
            raise NoLink(f"no link between two of {self._network.node_letters()}: {link!r}")
        if len(self._words) >= MOST_LINKS:
            raise BadEvent("many")

    def _check_link(self, word, link):
        require_link(self._network, link)
        if word == "opened" and self._words[link] != "closed":
            raise BadEvent("open")
        if word != "opened" and self._words[link] != "free":
            raise BadEvent(self._words[link])

    def _take(self, event):
        """An event that can take place does so."""
        if event[0] == "learned":
            self._learn(event[1], event[2])
        elif event[0] == "added":
            self._add(event[1])
        elif event[0] == "opened":
            self._sending.free[event[1]] = self._network.links[event[1]]
            self._words[event[1]] = "free"
        elif event[0] == "sent":
            self._sending.send(event[1:])
            self._words[event[1]] = "used"
        else:
            del self._sending.free[event[1]]
            self._words[event[1]] = event[0]

    def _learn(self, node, message):
        rows = [list(row) for row in self._network.nodes]
        rows[node_number(self._network, node)].append(message)
        self._network = Network(self._network.variables, rows, self._network.links)
        self._sending.learn(node, message)

    def _add(self, link):
        links = list(self._network.links) + [link]
        self._network = Network(self._network.variables, self._network.nodes, links)
        self._sending.free[len(self._words)] = link
        self._words.append("free")


def replayed(network, events):
    """A new session of a network in which events were recorded."""
    session = Session(network)
    for number, event in enumerate(events):
        try:
            session.record(event)
        except KnowError:
            raise Rejected(number) from None
    return session
