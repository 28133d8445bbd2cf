"""Parities as numbers, one binary digit for each letter, and what several of them span (part B)."""

from allknow.networks import is_ascending

PARITY_LETTERS = "abcdefgh"


def is_parity(text):
    """True if a text is a parity of the letters a to h, otherwise False."""
    return is_ascending(PARITY_LETTERS, text)


def mask_of(parity):
    """The number of a parity or an assignment: a counts 1, b 2, c 4, and so on."""
    return sum([1 << PARITY_LETTERS.index(letter) for letter in parity])


def text_of(mask):
    """The parity or the assignment with this number."""
    return "".join([letter for at, letter in enumerate(PARITY_LETTERS) if (mask >> at) & 1])


def is_odd(mask, assignment):
    """True if a parity is odd under an assignment, both told by their numbers."""
    common = mask & assignment
    odd = False
    while common:
        common = common & (common - 1)
        odd = not odd
    return odd


def remainder(span, mask):
    """What is left of a parity when rows of a span are added to it: 0 exactly if it can be derived."""
    for row in span:
        # A row lacks the highest digits of all rows ahead of it, so that none of them comes back.
        mask = min(mask, mask ^ row)
    return mask


def spanned(masks, span=()):
    """The rows of a span from which can be derived what can be from these parities and from a span."""
    rows = list(span)
    for mask in masks:
        rest = remainder(rows, mask)
        if rest:
            rows.append(rest)
    return rows


def basis_indices(masks):
    """The ascending list of the indices of those that cannot be derived from the earlier ones."""
    span = []
    indices = []
    for index, mask in enumerate(masks):
        rest = remainder(span, mask)
        if rest:
            span.append(rest)
            indices.append(index)
    return indices


def first_masks(network):
    """For each node, by its letter, the list of the numbers of its messages."""
    letters = network.node_letters()
    return {node: [mask_of(text) for text in network.messages(node)] for node in letters}
