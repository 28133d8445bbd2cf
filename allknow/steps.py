"""Steps in which links carry any parities (part C)."""

from allknow.errors import KnowError
from allknow.networks import has_link, is_ascending, node_number
from allknow.parities import basis_indices, first_masks, is_odd, mask_of, remainder, spanned, text_of
from allknow.spans import parity_mask


class Fault(KnowError):
    """A step cannot be done: the index of the first one."""

    def __init__(self, number):
        self.number = number


def fault(network, steps):
    """The index of the first step that cannot be done, or None if all can be done."""
    done = len(_stages(network, steps)) - 1
    return done if done < len(steps) else None


def ranks(network, steps):
    """For each node the rank of what it has behind the steps."""
    had = _stages_of_all(network, steps)[-1]
    return tuple([len(spanned(had[node])) for node in network.node_letters()])


def informed(network, steps):
    """The letters of the nodes that can derive all messages behind the steps."""
    had = _stages_of_all(network, steps)[-1]
    everything = [mask_of(text) for text in network.all_messages()]
    return "".join([node for node in network.node_letters() if _derives_all(had[node], everything)])


def known(network, steps, node):
    """The basis of what a node has behind the steps, a tuple of texts."""
    had = _stages_of_all(network, steps)[-1]
    node_number(network, node)
    return tuple([text_of(had[node][index]) for index in basis_indices(had[node])])


def earliest(network, steps, node, parity):
    """Behind how many steps a node can first derive a parity, or None if it never can."""
    stages = _stages_of_all(network, steps)
    node_number(network, node)
    mask = parity_mask(parity)
    for count, had in enumerate(stages):
        if _derives_all(had[node], [mask]):
            return count
    return None


def carried(network, steps, assignment):
    """For each step whether its parity is odd under an assignment."""
    _stages_of_all(network, steps)
    ones = parity_mask(assignment)
    return tuple([is_odd(mask_of(parity), ones) for _, parity in steps])


def idle_steps(network, steps):
    """The ascending tuple of the indices of the steps whose receivers could derive the parity before."""
    stages = _stages_of_all(network, steps)
    idle = []
    for number, (link, parity) in enumerate(steps):
        _, receiver = network.links[link]
        if _derives_all(stages[number][receiver], [mask_of(parity)]):
            idle.append(number)
    return tuple(idle)


def reduced(network, steps):
    """The tuple of all steps that are not idle."""
    idle = idle_steps(network, steps)
    return tuple([tuple(step) for number, step in enumerate(steps) if number not in idle])


def can_swap(network, steps, number):
    """True if there is no fault when a step and the next one are exchanged, otherwise False."""
    _stages_of_all(network, steps)
    if number < 0 or number + 1 >= len(steps):
        return False
    exchanged = list(steps)
    exchanged[number], exchanged[number + 1] = steps[number + 1], steps[number]
    return fault(network, exchanged) is None


def _stages(network, steps):
    """What each node has at the beginning and behind each step ahead of the fault: dicts of lists of masks."""
    had = first_masks(network)
    stages = [had]
    used = []
    for link, parity in steps:
        if link in used or not _can_be_carried(network, had, link, parity):
            return stages
        _, receiver = network.links[link]
        had = {node: list(masks) for node, masks in had.items()}
        had[receiver].append(mask_of(parity))
        stages.append(had)
        used.append(link)
    return stages


def _stages_of_all(network, steps):
    """The stages of steps that must be without a fault."""
    stages = _stages(network, steps)
    if len(stages) <= len(steps):
        raise Fault(len(stages) - 1)
    return stages


def _can_be_carried(network, had, link, parity):
    """True if there is such a link, and its sender can derive this parity of the network's variables."""
    if not has_link(network, link) or not is_ascending(network.variable_letters(), parity):
        return False
    sender, _ = network.links[link]
    return _derives_all(had[sender], [mask_of(parity)])


def _derives_all(had, wanted):
    """True if from what a node has all that is wanted can be derived, otherwise False."""
    span = spanned(had)
    return all([remainder(span, mask) == 0 for mask in wanted])
