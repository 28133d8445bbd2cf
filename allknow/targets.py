"""Targets: how single nodes come to know all messages (part J)."""

from allknow.errors import KnowError
from allknow.margins import enters_any, margins_of
from allknow.networks import require_set
from allknow.sending import Sending, checked_transmissions, sending_after


class NoTarget(KnowError):
    """A text is none of the targets."""


def first_set(network, targets):
    """The first deficient set that has a target, or None."""
    require_set(network, targets)
    return _first_with(margins_of(network).deficient(), targets)


def is_feasible_for(network, targets):
    """True if no set that has a target is deficient, otherwise False."""
    return first_set(network, targets) is None


def feasible_alone(network, targets):
    """The letters of the targets for each of which, it alone, the network is feasible."""
    require_set(network, targets)
    deficient = margins_of(network).deficient()
    return "".join([target for target in targets if _first_with(deficient, target) is None])


def critical_links(network, targets):
    """The ascending tuple of the links without each of which the network is not feasible for the targets, or None."""
    if not is_feasible_for(network, targets):
        return None
    tight = _with_any(margins_of(network).tight(), targets)
    return tuple([number for number, link in enumerate(network.links) if enters_any(link, tight)])


def delivery(network, targets, target):
    """The delivery to a target, a tuple of transmissions, or None if the network is not feasible for it alone."""
    require_set(network, targets)
    # The empty text and longer ones can stand in the targets, too.
    if len(target) != 1 or target not in targets:
        raise NoTarget(f"none of the targets {targets}: {target!r}")
    if not is_feasible_for(network, target):
        return None
    sending = Sending(network)
    taken = []
    while not sending.is_informed(target):
        margins = sending.margins()
        tight = _with_any(margins.tight(), target)
        transmission = sending.possible_ones(margins, tight)[0]
        sending.send(transmission)
        taken.append(transmission)
    return _leading_to(network, taken, target)


def is_complete_for(network, targets, transmissions):
    """True if transmissions are complete for the targets, otherwise False."""
    require_set(network, targets)
    sending = sending_after(network, checked_transmissions(network, transmissions))
    return sending is not None and all([sending.is_informed(target) for target in targets])


def _with_any(sets, targets):
    """The list of those sets that have one of the targets."""
    return [nodes for nodes in sets if any([target in nodes for target in targets])]


def _first_with(sets, targets):
    """The first of the sets that has one of the targets, or None."""
    found = _with_any(sets, targets)
    return found[0] if found else None


def _leading_to(network, taken, target):
    """The tuple of those transmissions that bring a message to the target, perhaps through others that stay."""
    kept = []
    carried_on = {}
    for link, origin, index in reversed(taken):
        sender, receiver = network.links[link]
        if receiver == target or (receiver, origin, index) in carried_on:
            kept.append((link, origin, index))
            carried_on[(sender, origin, index)] = True
    return tuple(reversed(kept))
