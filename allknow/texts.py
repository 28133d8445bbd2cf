"""Networks as texts, and networks with their nodes in another order (part A)."""

from itertools import permutations

from allknow.errors import KnowError
from allknow.networks import MOST_LINKS, MOST_MESSAGES, MOST_NODES
from allknow.networks import NODE_LETTERS, VARIABLE_LETTERS
from allknow.networks import Network, first_letters, node_number

LONGEST_TEXT = 400
VARIABLE_DIGITS = "0123456"


class BadText(KnowError):
    """A text is no text of a network: the position at which it goes wrong."""

    def __init__(self, position):
        self.position = position


class TooLong(KnowError):
    """A text has too many characters."""


class BadOrder(KnowError):
    """A text is no order of a network."""


class Signs:
    """The characters of a text that are no spaces, taken one by one."""

    def __init__(self, text):
        self.text = text
        self.places = [at for at, sign in enumerate(text) if sign != " "]
        self.taken = 0

    def at_end(self):
        """True if all of them are taken."""
        return self.taken == len(self.places)

    def next_is_of(self, allowed):
        """True if there is one more, and it is one of those allowed."""
        return not self.at_end() and self.text[self.places[self.taken]] in allowed

    def take(self, allowed):
        """The next one, which must be one of those allowed."""
        if self.at_end():
            raise BadText(len(self.text))
        place = self.places[self.taken]
        if self.text[place] not in allowed:
            raise BadText(place)
        self.taken += 1
        return self.text[place]


def read_network(text):
    """The network of a text."""
    if len(text) > LONGEST_TEXT:
        raise TooLong(f"more than {LONGEST_TEXT} characters")
    signs = Signs(text)
    variables = int(signs.take(VARIABLE_DIGITS))
    signs.take(":")
    nodes = _read_nodes(signs, first_letters(VARIABLE_LETTERS, variables))
    links = _read_links(signs, first_letters(NODE_LETTERS, len(nodes)))
    return Network(variables, nodes, links)


def write_network(network):
    """The text of a network."""
    nodes = " |".join([_write_row(messages) for messages in network.nodes])
    return f"{network.variables}:{nodes} ;{_write_row(network.links)}"


def relabelled(network, order):
    """The network relabelled by an order."""
    if "".join(sorted(order)) != network.node_letters():
        raise BadOrder(f"no order of {network.node_letters()}: {order!r}")
    nodes = [network.nodes[node_number(network, node)] for node in order]
    links = [_relabelled_link(link, order) for link in network.links]
    return Network(network.variables, nodes, links)


def is_same(first, second):
    """True if two networks are the same but for the order of links, otherwise False."""
    if first.variables != second.variables or first.nodes != second.nodes:
        return False
    return sorted(first.links) == sorted(second.links)


def isomorphism(first, second):
    """The first order by which the first network, relabelled, is the same as the second, or None."""
    letters = first.node_letters()
    # Of ascending letters, permutations come letter by letter in order.
    for letters_in_order in permutations(letters):
        order = "".join(letters_in_order)
        if is_same(relabelled(first, order), second):
            return order
    return None


def _read_nodes(signs, letters):
    """The messages of all nodes, up to and with the `;` behind them."""
    nodes = [_read_messages(signs, letters)]
    while len(nodes) < MOST_NODES and signs.next_is_of("|"):
        signs.take("|")
        nodes.append(_read_messages(signs, letters))
    signs.take(";")
    return nodes


def _read_messages(signs, letters):
    """The messages of one node; what stands behind them is left."""
    messages = []
    if signs.next_is_of(letters):
        messages.append(_read_message(signs, letters))
        while len(messages) < MOST_MESSAGES and signs.next_is_of(","):
            signs.take(",")
            messages.append(_read_message(signs, letters))
    return messages


def _read_message(signs, letters):
    """One message; what stands behind it is left."""
    message = signs.take(letters)
    behind = letters.partition(message)[2]
    while signs.next_is_of(behind):
        letter = signs.take(behind)
        message = message + letter
        behind = behind.partition(letter)[2]
    return message


def _read_links(signs, letters):
    """All links, up to the end of the text."""
    links = []
    while not signs.at_end():
        if links:
            # Behind the last link that may stand there, nothing can follow.
            signs.take("," if len(links) < MOST_LINKS else "")
        links.append(_read_link(signs, letters))
    return links


def _read_link(signs, letters):
    """One link; what stands behind it is left."""
    # From a single node no link can lead, so already its letter goes wrong.
    senders = letters if len(letters) > 1 else ""
    sender = signs.take(senders)
    receiver = signs.take(letters.replace(sender, ""))
    return sender + receiver


def _write_row(texts):
    """Messages or links with a space ahead of each one."""
    return ",".join([f" {text}" for text in texts])


def _relabelled_link(link, order):
    """The link between the same nodes, by what these are called in the order."""
    sender, receiver = link
    return NODE_LETTERS[order.index(sender)] + NODE_LETTERS[order.index(receiver)]
