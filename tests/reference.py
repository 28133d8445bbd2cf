"""What the document says, told anew in sets of letters and by trying everything, to hold the program against."""

import functools
import itertools


def added(parities):
    """The sum of parities."""
    letters = set()
    for parity in parities:
        letters = letters ^ set(parity)
    return "".join(sorted(letters))


@functools.lru_cache(maxsize=None)
def sums(messages):
    """All parities that are the sum of some of these messages."""
    found = {""}
    for message in messages:
        found = found | {added((message, parity)) for parity in found}
    return frozenset(found)


def rank(messages):
    """The rank of messages: of how many twofold choices their sums come."""
    return len(sums(tuple(messages))).bit_length() - 1


def parities(letters):
    """All parities of these letters, in the order of [B3]."""
    found = [""]
    for letter in letters:
        found = found + [parity + letter for parity in found]
    return found


def is_odd(parity, assignment):
    return len(set(parity) & set(assignment)) % 2 == 1


def first_fewest(messages, parity):
    """The first of the fewest indices at which messages add up to a parity, by trying all sums."""
    for size in range(len(messages) + 1):
        for indices in itertools.combinations(range(len(messages)), size):
            if added([messages[index] for index in indices]) == parity:
                return indices
    return None


def basis_texts(messages):
    """The messages that cannot be derived from the earlier ones."""
    return tuple(text for at, text in enumerate(messages) if text not in sums(tuple(messages[:at])))


def node_sets(letters):
    """All sets of nodes, in order."""
    sets = ["".join(row) for size in range(1, 7) for row in itertools.combinations(sorted(letters), size)]
    return sorted(sets, key=lambda nodes: (len(nodes), nodes))


def set_facts(nodes, rows, links):
    """Rank, demand, entering links, and whether it is tight and deficient, of a set of nodes.

    The rows tell by letters what the nodes have, the links by numbers where they lead.
    """
    rank_of_set = rank([text for node in nodes for text in rows[node]])
    demand = rank([text for node in rows for text in rows[node]]) - rank_of_set
    into = tuple(number for number in sorted(links) if links[number][0] not in nodes and links[number][1] in nodes)
    return (rank_of_set, demand, into, len(into) == demand, len(into) < demand)


def network_rows(network):
    return {node: list(network.messages(node)) for node in network.node_letters()}


def network_links(network):
    return dict(enumerate(network.links))


def network_facts(network):
    """The facts of all sets of nodes of a network, in order."""
    rows, links = network_rows(network), network_links(network)
    return {nodes: set_facts(nodes, rows, links) for nodes in node_sets(network.node_letters())}


class Course:
    """What it is like after transmissions, or steps, told from the beginning."""

    def __init__(self, network):
        self.network = network
        self.links = network_links(network)
        self.rows = network_rows(network)
        self.had = {node: [(node, index) for index in range(len(row))] for node, row in self.rows.items()}

    def message(self, transmission):
        return self.network.messages(transmission[1])[transmission[2]]

    def derives(self, node, parity):
        return parity in sums(tuple(self.rows[node]))

    def wrong(self, transmission):
        link, origin, index = transmission
        if link not in self.links:
            return "used"
        sender, receiver = self.links[link]
        if (origin, index) not in self.had[sender]:
            return "missing"
        return "known" if self.derives(receiver, self.message(transmission)) else None

    def after(self, transmission):
        """A new one: what it is like after one more transmission."""
        receiver = self.links[transmission[0]][1]
        other = self.carried(transmission[0], self.message(transmission))
        other.had[receiver].append(tuple(transmission[1:]))
        return other

    def carried(self, link, parity):
        """A new one: what it is like after a link carried a parity."""
        other = self.without((link,))
        other.rows[self.links[link][1]].append(parity)
        return other

    def without(self, links):
        """A new one: what it is like without some of the links."""
        other = Course(self.network)
        other.rows = {node: list(row) for node, row in self.rows.items()}
        other.had = {node: list(row) for node, row in self.had.items()}
        other.links = {number: text for number, text in self.links.items() if number not in links}
        return other

    def can_carry(self, link, parity):
        """Whether a step can be done now."""
        if link not in self.links or parity not in parities(self.network.variable_letters()):
            return False
        return self.derives(self.links[link][0], parity)

    def deficient(self):
        facts = {nodes: set_facts(nodes, self.rows, self.links) for nodes in node_sets(self.rows)}
        return [nodes for nodes in facts if facts[nodes][4]]

    def is_over(self):
        everything = tuple(self.network.all_messages())
        return all(sums(tuple(row)) == sums(everything) for row in self.rows.values())

    def possible(self):
        """All possible transmissions, in order."""
        letters = self.network.node_letters()
        every = [(link, origin, index) for link in sorted(self.links) for origin in letters
                 for index in range(len(self.network.messages(origin)))]
        return [transmission for transmission in every if self.wrong(transmission) is None]

    def next_ones(self):
        """All possible transmissions after which no set is deficient, each tried."""
        return [transmission for transmission in self.possible() if not self.after(transmission).deficient()]


def suffices(rows, links):
    """Whether no set is deficient with what the nodes have, by letters, and with these links, by numbers."""
    return not any(set_facts(nodes, rows, links)[4] for nodes in node_sets(rows))


def failing(rows, links, size):
    """The first set of so many links without which some set is deficient, by trying all, or None."""
    for lost in itertools.combinations(sorted(links), size):
        if not suffices(rows, {number: text for number, text in links.items() if number not in lost}):
            return lost
    return None


def tolerance(rows, links):
    """How many links can be left out, whichever they are, by trying all; None if all can."""
    for size in range(len(links) + 1):
        if failing(rows, links, size) is not None:
            return size - 1
    return None


def after_all(network, transmissions):
    """What it is like after a schedule."""
    course = Course(network)
    for transmission in transmissions:
        course = course.after(transmission)
    return course


def first_complete(course):
    """The first continuation to a complete schedule, by trying all of them, or None."""
    if course.is_over():
        return ()
    for transmission in course.possible():
        behind = first_complete(course.after(transmission))
        if behind is not None:
            return (transmission,) + behind
    return None


def fault(network, steps):
    """The index of the first step that cannot be done behind those ahead of it, or None."""
    course = Course(network)
    for number, (link, parity) in enumerate(steps):
        if not course.can_carry(link, parity):
            return number
        course = course.carried(link, parity)
    return None


def courses(network, steps):
    """What it is like behind no steps, behind the first one, and so on."""
    found = [Course(network)]
    for link, parity in steps:
        found.append(found[-1].carried(link, parity))
    return found
