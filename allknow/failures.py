"""Links that fail: how many can be lost, and a schedule that goes by what arrived (part H)."""

from allknow.errors import KnowError
from allknow.margins import entering, enters_any
from allknow.networks import require_link
from allknow.node_sets import feasible_margins
from allknow.sending import Sending


class NothingSent(KnowError):
    """It was told whether a transmission arrived, but none was sent."""


class AdaptiveSchedule:
    """The adaptive schedule of a network: what is sent now, by what has arrived so far."""

    def __init__(self, network):
        self._sending = Sending(network)
        self._lost = []
        self._choice = _best(self._sending)

    def choice(self):
        """The transmission that is sent now, or None at the end."""
        return self._choice

    def tell(self, arrived):
        """Tells whether it arrived; returns the next one, or None at the end."""
        if self._choice is None:
            raise NothingSent("nothing was sent")
        if arrived:
            self._sending.send(self._choice)
        else:
            link = self._choice[0]
            del self._sending.free[link]
            self._lost.append(link)
        self._choice = _best(self._sending)
        return self._choice

    def lost(self):
        """The tuple of the links that were lost, in the order in which they were."""
        return tuple(self._lost)

    def deficient(self):
        """The first set that is deficient now, or None."""
        return self._sending.margins().first_deficient()


def tolerance(network):
    """The greatest number of links that can be left out, whichever they are, or None if all can."""
    return feasible_margins(network).tolerance()


def needed_links(network):
    """The ascending tuple of the links without each of which the network is not feasible."""
    tight = feasible_margins(network).tight()
    return tuple([number for number, link in enumerate(network.links) if enters_any(link, tight)])


def smallest_failure(network):
    """The ascending tuple of the fewest links without which the network is not feasible, or None."""
    margins = feasible_margins(network)
    least = margins.tolerance()
    failures = []
    for nodes, beyond in margins.beyond.items():
        # Without one link more than it has to spare, a set is deficient, whichever of its links they are.
        if margins.demands[nodes] > 0 and beyond == least:
            failures.append(tuple(entering(network.links, nodes)[:beyond + 1]))
    return min(failures, default=None)


def schedule_without(network, links):
    """The pair of the first deficient set and of the first complete schedule, both without some links."""
    for link in links:
        require_link(network, link)
    sending = Sending(network)
    for number in range(len(network.links)):
        if number in links:
            del sending.free[number]
    return (sending.margins().first_deficient(), sending.finish())


def _best(sending):
    """Of the transmissions that can come next the first one with the greatest tolerance behind it, or None."""
    margins = sending.margins()
    best = None
    greatest = None
    for transmission in sending.next_ones():
        link, origin, index = transmission
        told = margins.tolerance_after(sending.free[link], sending.masks[origin][index])
        if best is None or _is_more(told, greatest):
            best = transmission
            greatest = told
    return best


def _is_more(told, other):
    """True if a tolerance is greater than another one; None, when all links can fail, is more than any number."""
    if other is None:
        return False
    return told is None or told > other
