"""Schedules: transmissions that carry first messages unchanged (part E)."""

from allknow.networks import require_message
from allknow.sending import Sending, checked_transmissions, sending_after


def first_schedule(network):
    """The first of all complete schedules, or None if there is none."""
    return Sending(network).finish()


def is_complete(network, transmissions):
    """True if transmissions are a complete schedule, otherwise False."""
    sending = sending_after(network, checked_transmissions(network, transmissions))
    return sending is not None and sending.is_over()


def next_transmissions(network, transmissions):
    """The tuple of the transmissions that can come next, or None if those told are no schedule."""
    sending = sending_after(network, checked_transmissions(network, transmissions))
    return None if sending is None else tuple(sending.next_ones())


def schedule_fault(network, transmissions):
    """The tuple (index, reason, nodes) of the first transmission with which something is wrong, or None."""
    sending = Sending(network)
    for number, transmission in enumerate(checked_transmissions(network, transmissions)):
        reason = sending.hindrance(transmission)
        if reason is not None:
            return (number, reason, None)
        sending.send(transmission)
        nodes = sending.margins().first_deficient()
        if nodes is not None:
            return (number, "deficient", nodes)
    return None


def holdings(network, transmissions):
    """For each node the pairs (origin, index) of what it has after transmissions, or None if they are no schedule."""
    sending = sending_after(network, checked_transmissions(network, transmissions))
    if sending is None:
        return None
    return tuple([tuple(sending.had[node]) for node in network.node_letters()])


def tree(network, transmissions, origin, index):
    """The pair of the indices of the transmissions that carry a message and of the nodes that have it after them."""
    checked = checked_transmissions(network, transmissions)
    require_message(network, origin, index)
    sending = sending_after(network, checked)
    if sending is None:
        return None
    message = (origin, index)
    carrying = [number for number, transmission in enumerate(checked) if transmission[1:] == message]
    holders = [node for node in network.node_letters() if message in sending.had[node]]
    return (tuple(carrying), "".join(holders))


def time_slots(network, transmissions):
    """The tuple of the time slots of transmissions, or None if they are no schedule."""
    checked = checked_transmissions(network, transmissions)
    if sending_after(network, checked) is None:
        return None
    slots = []
    brought = {}
    for link, origin, index in checked:
        sender, receiver = network.links[link]
        # Nothing brings a message to its own origin, so there it counts 0.
        slot = brought.get((sender, origin, index), 0) + 1
        brought[(receiver, origin, index)] = slot
        slots.append(slot)
    return tuple(slots)
