"""What can be derived from messages, and how (part B)."""

from allknow.errors import KnowError
from allknow.networks import first_letters, is_ascending
from allknow.parities import PARITY_LETTERS
from allknow.parities import basis_indices, is_odd, is_parity, mask_of, remainder, spanned, text_of


class BadParity(KnowError):
    """A text is no parity of the letters a to h."""

    def __init__(self, text):
        self.text = text


def message_rank(messages):
    """The rank of messages."""
    return len(spanned(_message_masks(messages)))


def is_derived(messages, parity):
    """True if a parity can be derived from messages, otherwise False."""
    span = spanned(_message_masks(messages))
    return remainder(span, parity_mask(parity)) == 0


def basis(messages):
    """The ascending tuple of the indices of the basis of messages."""
    return tuple(basis_indices(_message_masks(messages)))


def combination(messages, parity):
    """The first of the fewest indices at which messages add up to a parity, or None."""
    masks = _message_masks(messages)
    rest = parity_mask(parity)
    fewest = _fewest_messages(masks)
    if rest not in fewest:
        return None
    indices = []
    # Each index that fits is taken at once; one behind which it did not fit cannot be needed later,
    # since the fewest messages can be added up in any order.
    for index, mask in enumerate(masks):
        if fewest[rest ^ mask] < fewest[rest]:
            indices.append(index)
            rest = rest ^ mask
    return tuple(indices)


def separating(variables, messages, parity):
    """The first assignment under which a parity is odd and no message is, or None."""
    span = spanned(_message_masks(messages))
    mask = parity_mask(parity)
    for assignment in _assignment_masks(variables):
        if is_odd(mask, assignment) and not any([is_odd(row, assignment) for row in span]):
            return text_of(assignment)
    return None


def redundant(messages):
    """The ascending tuple of the indices of the messages that can be derived from all the others."""
    masks = _message_masks(messages)
    # What is not in the basis is derived from the messages ahead of it alone.
    needed = [index for index in basis_indices(masks) if not _is_derived_from_others(masks, index)]
    return tuple([index for index in range(len(masks)) if index not in needed])


def is_equivalent(first, second):
    """True if the same parities can be derived from both rows of messages, otherwise False."""
    first_span = spanned(_message_masks(first))
    second_span = spanned(_message_masks(second))
    both = spanned(second_span, first_span)
    return len(first_span) == len(second_span) == len(both)


def odd_ones(messages, assignment):
    """The tuple that tells for each message whether it is odd under an assignment."""
    masks = _message_masks(messages)
    ones = parity_mask(assignment)
    return tuple([is_odd(mask, ones) for mask in masks])


def assignments(variables, messages, told):
    """The pair of how many assignments give the messages the values told, and of the first of them, or None."""
    wanted = {}
    for mask, value in zip(_message_masks(messages), told):
        if wanted.setdefault(mask, value) != value:
            return (0, None)
    good = [mask for mask in _assignment_masks(variables) if _gives(mask, wanted)]
    if not good:
        return (0, None)
    # Of variables behind the letter h no message has any, so each of them doubles the number.
    return (len(good) << max(0, variables - len(PARITY_LETTERS)), text_of(good[0]))


def parity_mask(text):
    """The number of a text that must be a parity or an assignment of the letters a to h."""
    if not is_parity(text):
        raise BadParity(text)
    return mask_of(text)


def network_mask(network, text):
    """The number of a text that must be a parity or an assignment of the variables of a network."""
    if not is_ascending(network.variable_letters(), text):
        raise BadParity(text)
    return mask_of(text)


def _message_masks(messages):
    return [parity_mask(text) for text in messages]


def _assignment_masks(variables):
    """The list of the numbers of all assignments of so many variables, in order."""
    return list(range(1 << len(first_letters(PARITY_LETTERS, variables))))


def _gives(assignment, wanted):
    """True if each parity has the value wanted for it under an assignment."""
    return all([is_odd(mask, assignment) == value for mask, value in wanted.items()])


def _is_derived_from_others(masks, index):
    others = masks[:index] + masks[index + 1:]
    return remainder(spanned(others), masks[index]) == 0


def _fewest_messages(masks):
    """For each parity that can be derived, of how many messages it is the sum at least."""
    different = sorted(set(masks))
    fewest = {0: 0}
    reached = [0]
    while reached:
        further = []
        for start in reached:
            for mask in different:
                if start ^ mask not in fewest:
                    fewest[start ^ mask] = fewest[start] + 1
                    further.append(start ^ mask)
        reached = further
    return fewest
