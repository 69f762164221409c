"""Serving: which asks and orders could be served, by whatever units."""

from standinparts.errors import BadEvents, BadShare
from standinparts.flows import SINK, SOURCE, Network
from standinparts.runs import Run, is_event, places_asked


def check_shares(parts_list):
    """Raises BadShare for the first place with a share."""
    for word, _, _, share in parts_list.places():
        if share is not None:
            raise BadShare(word)


def check_events(parts_list, events):
    """Raises BadEvents for the first value that is no event or has a lesser day than the one ahead."""
    last = 0
    for index, event in enumerate(events):
        if not is_event(parts_list, event) or event[-1] < last:
            raise BadEvents(index)
        last = event[-1]


def wanted_by(parts_list, allowances, event):
    """The tuples (candidates, number): of which parts an ask or an order wants how many units."""
    return [(allowances(place[1], event[-1]), number) for place, number in places_asked(parts_list, event)]


class Serving:
    """Units that come, and what all asks and orders together could get of them."""

    def __init__(self):
        self._network = Network()
        # The nodes of units are (part, stage): those of a part that come between the same two asks are alike.
        self._came = {}
        self._stage = 0

    def come(self, part):
        """Lets a unit come."""
        node = (part, self._stage)
        self._network.add_way(SOURCE, node, 1)
        self._came[node] = True

    def serve(self, wanted):
        """Whether what is wanted could be had together with all that was wanted ahead.

        If it could not be, this object is not to be used any more.
        """
        total = 0
        for index, (candidates, number) in enumerate(wanted):
            asked = ("asked", self._stage, index)
            for node in self._came:
                if node[0] in candidates:
                    self._network.add_way(node, asked, number)
            self._network.add_way(asked, SINK, number)
            total += number
        self._stage += 1
        # What was wanted ahead has its units, and keeps as many, so that just the new units are still to flow.
        return self._network.flow(SOURCE, SINK) == total

    def copy(self):
        """The same units and wishes, going on by themselves."""
        other = Serving()
        other._network = self._network.copy()
        other._came = {node: True for node in self._came}
        other._stage = self._stage
        return other


def could_serve(parts_list, allowances, events, served):
    """Whether the asks and orders at some indexes could all be served together."""
    check_shares(parts_list)
    check_events(parts_list, events)
    chosen = {index: True for index in served}
    serving = Serving()
    for index, event in enumerate(events):
        if event[0] == "come":
            serving.come(event[1])
        elif index in chosen and not serving.serve(wanted_by(parts_list, allowances, event)):
            return False
    return True


def first_wrong(parts_list, allowances, rule, events):
    """The index of the first event that is refused though it could be served, or None."""
    check_shares(parts_list)
    check_events(parts_list, events)
    run = Run(parts_list, allowances, rule)
    serving = Serving()
    for index, event in enumerate(events):
        answer = run.do(event)
        if event[0] == "come":
            serving.come(event[1])
            continue
        wanted = wanted_by(parts_list, allowances, event)
        if answer is not None:
            serving.serve(wanted)
        elif serving.copy().serve(wanted):
            return index
    return None
