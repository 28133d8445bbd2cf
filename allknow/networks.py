"""Networks: nodes, their messages, and the links between them (part A)."""

from allknow.errors import KnowError

VARIABLE_LETTERS = "abcdefghijklmnopqrstuvwxyz"
NODE_LETTERS = "ABCDEFGHIJKLMNOPQRSTUVWXYZ"

MOST_VARIABLES = 6
MOST_NODES = 6
MOST_MESSAGES = 4
MOST_LINKS = 16


class BadNetwork(KnowError):
    """Numbers and texts that are no network: in which part, at which number, and why."""

    def __init__(self, part, number, reason):
        self.part = part
        self.number = number
        self.reason = reason


class NoNode(KnowError):
    """A text is not the letter of a node of the network."""


class NoSet(KnowError):
    """A text is not a set of nodes of the network."""


class NoLink(KnowError):
    """There is no such link."""


class NoMessage(KnowError):
    """A node has no message with such an index."""


class Network:
    """A number of variables, a row of messages for each node, and links between nodes."""

    def __init__(self, variables, nodes, links):
        _check_variables(variables)
        _check_nodes(variables, nodes)
        _check_links(len(nodes), links)
        self.variables = variables
        self.nodes = tuple(tuple(messages) for messages in nodes)
        self.links = tuple(links)

    def node_letters(self):
        """The letters of all nodes, as a text."""
        return first_letters(NODE_LETTERS, len(self.nodes))

    def variable_letters(self):
        """The letters of all variables, as a text."""
        return first_letters(VARIABLE_LETTERS, self.variables)

    def messages(self, node):
        """The tuple of the messages of a node, told by its letter."""
        return self.nodes[node_number(self, node)]

    def all_messages(self):
        """The list of the messages of all nodes, node by node."""
        return [message for messages in self.nodes for message in messages]


def is_message(variables, text):
    """True if a text is a message of so many variables, otherwise False."""
    return text != "" and is_ascending(first_letters(VARIABLE_LETTERS, variables), text)


def is_link(nodes, text):
    """True if a text is a link between two of so many nodes, otherwise False."""
    if len(text) != 2 or text[0] == text[1]:
        return False
    letters = first_letters(NODE_LETTERS, nodes)
    return text[0] in letters and text[1] in letters


def node_number(network, node):
    """The number of a node, told by its letter."""
    letters = network.node_letters()
    # The empty text and longer ones can stand in the letters, too.
    if len(node) != 1 or node not in letters:
        raise NoNode(f"no node of {letters}: {node!r}")
    return letters.index(node)


def require_set(network, nodes):
    """Raises NoSet if a text is no set of nodes of the network."""
    if nodes == "" or not is_ascending(network.node_letters(), nodes):
        raise NoSet(f"no set of nodes of {network.node_letters()}: {nodes!r}")


def has_link(network, link):
    """True if the network has a link with this number, otherwise False."""
    return link >= 0 and link < len(network.links)


def require_link(network, link):
    """Raises NoLink if the network has no link with this number."""
    if not has_link(network, link):
        raise NoLink(f"no link with the number {link}")


def require_message(network, node, index):
    """Raises NoNode if a text is no node of the network, NoMessage if it has no message with this index."""
    messages = network.messages(node)
    if index < 0 or index >= len(messages):
        raise NoMessage(f"{node} has no message with the index {index}")


def first_letters(letters, count):
    """So many of the letters; none if the count is below 0."""
    return letters[:max(0, count)]


def is_ascending(letters, text):
    """True if a text has only these letters, each of them behind the one before it."""
    behind = letters
    for letter in text:
        if letter not in behind:
            return False
        behind = behind.partition(letter)[2]
    return True


def is_count(value):
    """True if a value is a whole number from 0 on, otherwise False."""
    return isinstance(value, int) and not isinstance(value, bool) and value >= 0


def are_counts(values, count):
    """True if values are so many whole numbers from 0 on, otherwise False."""
    if not isinstance(values, (list, tuple)) or len(values) != count:
        return False
    return all([is_count(value) for value in values])


def _check_variables(variables):
    if variables < 0 or variables > MOST_VARIABLES:
        raise BadNetwork("variables", None, "range")


def _check_nodes(variables, nodes):
    if len(nodes) < 1 or len(nodes) > MOST_NODES:
        raise BadNetwork("nodes", None, "count")
    for number, messages in enumerate(nodes):
        if len(messages) > MOST_MESSAGES:
            raise BadNetwork("nodes", number, "count")
        for text in messages:
            if not is_message(variables, text):
                raise BadNetwork("nodes", number, "message")


def _check_links(nodes, links):
    if len(links) > MOST_LINKS:
        raise BadNetwork("links", None, "count")
    for number, text in enumerate(links):
        if not is_link(nodes, text):
            raise BadNetwork("links", number, "link")
