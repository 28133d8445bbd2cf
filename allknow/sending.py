"""What it is like while messages are sent: what the nodes have, and which links are free (part E)."""

from allknow.margins import Margins, enters
from allknow.networks import require_link, require_message
from allknow.parities import mask_of, remainder, spanned


class Sending:
    """What the nodes of a network have, and which links are free, while messages are sent.

    Messages are told by their origins and indices; of each node the numbers of its own ones are kept.
    """

    def __init__(self, network):
        self.free = dict(enumerate(network.links))
        self.masks = {}
        self.had = {}
        self.spans = {}
        for node in network.node_letters():
            self.masks[node] = []
            self.had[node] = []
            self.spans[node] = []
            for text in network.messages(node):
                self.learn(node, text)

    def learn(self, node, text):
        """A node gets one more message of its own, however many it has."""
        mask = mask_of(text)
        self.had[node].append((node, len(self.masks[node])))
        self.masks[node].append(mask)
        self.spans[node] = spanned([mask], self.spans[node])

    def hindrance(self, transmission):
        """Why a transmission of the network is not possible, a word, or None if it is."""
        link, origin, index = transmission
        if link not in self.free:
            return "used"
        sender, receiver = self.free[link]
        if (origin, index) not in self.had[sender]:
            return "missing"
        if remainder(self.spans[receiver], self.masks[origin][index]) == 0:
            return "known"
        return None

    def send(self, transmission):
        """A possible transmission takes place."""
        link, origin, index = transmission
        _, receiver = self.free[link]
        del self.free[link]
        self.had[receiver].append((origin, index))
        self.spans[receiver] = spanned([self.masks[origin][index]], self.spans[receiver])

    def margins(self):
        """The sets of nodes, with what the nodes have now and the links that are free."""
        return Margins(self.spans, list(self.free.values()))

    def is_informed(self, node):
        """True if a node can derive all messages, otherwise False."""
        everything = []
        for span in self.spans.values():
            everything = spanned(span, everything)
        return len(self.spans[node]) == len(everything)

    def is_over(self):
        """True if each node can derive all messages, otherwise False."""
        return all([self.is_informed(node) for node in self.spans])

    def possible_ones(self, margins, tight):
        """The list of the possible transmissions, in order, after which none of these tight sets is deficient.

        The margins are those of now.
        """
        found = []
        for link in sorted(self.free):
            text = self.free[link]
            # A tight set that the link enters becomes deficient, unless its demand falls, too.
            spans = [margins.spans[nodes] for nodes in tight if enters(text, nodes)]
            spans.append(self.spans[text[1]])
            for origin, index in sorted(self.had[text[0]]):
                if is_new_to_all(spans, self.masks[origin][index]):
                    found.append((link, origin, index))
        return found

    def next_ones(self):
        """The list of the possible transmissions, in order, after which no set is deficient."""
        margins = self.margins()
        if margins.first_deficient() is not None:
            return []
        return self.possible_ones(margins, margins.tight())

    def finish(self):
        """Sends the first of all rows of transmissions that complete the schedule; returns it, or None if
        there is none."""
        sent = []
        next_ones = self.next_ones()
        while next_ones:
            sent.append(next_ones[0])
            self.send(next_ones[0])
            next_ones = self.next_ones()
        return tuple(sent) if self.is_over() else None


def checked_transmissions(network, transmissions):
    """The list of transmissions, as tuples, each of which must be one of the network."""
    checked = []
    for link, origin, index in transmissions:
        require_link(network, link)
        require_message(network, origin, index)
        checked.append((link, origin, index))
    return checked


def sending_after(network, checked):
    """What it is like after transmissions of the network, or None if they are no schedule."""
    sending = Sending(network)
    for transmission in checked:
        if sending.hindrance(transmission) is not None:
            return None
        sending.send(transmission)
    return sending


def is_new_to_all(spans, mask):
    """True if a parity can be derived from none of the spans, otherwise False."""
    return all([remainder(span, mask) != 0 for span in spans])
