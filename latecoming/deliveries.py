"""Deliveries: how messages may come, event by event, and the scenes to which they lead."""

from latecoming.cases import extended
from latecoming.machines import Steps, of_channel, start

# How many copies of a message travel with each fate.
COPIES = {"once": 1, "lost": 0, "twice": 2}


def first_scene(case):
    """Returns the scene of the empty delivery."""
    begin = start(case.program)
    differences = [((), ()) for _ in case.program.channels]
    return start(case.traffic), (), begin, begin, tuple(differences)


def possible_events(case, delays, scene):
    """Returns a list of the events that are possible in the scene, in their order."""
    return Network(case, delays).events_in(_with_tuples(scene))


def scene_after(case, delays, scene, event):
    """Returns the scene after a possible event."""
    return Network(case, delays).scene_after(_with_tuples(scene), event)


def is_delivery(case, delays, events):
    """Tells whether each event is possible after those before it."""
    if not isinstance(events, (list, tuple)):
        return False
    network = Network(case, delays)
    scene = first_scene(case)
    for event in events:
        if not _is_plain(event) or tuple(event) not in network.events_in(scene):
            return False
        scene = network.scene_after(scene, event)
    return True


def sequences(case, delays, events):
    """Returns a pair of lists, the sent and the received sequence of a delivery."""
    network = Network(case, delays)
    sent, received = [], []
    for event in events:
        more_sent, more_received = network.items_of(event)
        sent.extend(more_sent)
        received.extend(more_received)
    return sent, received


def is_complete(scene):
    """Tells whether the sender has stopped and nothing is in transit."""
    sender, transit, _, _, _ = scene
    return sender is None and len(transit) == 0


def is_harmful(case, scene):
    """Tells whether some channel of a complete scene does not look the same after the quiet time."""
    return has_harm(case, Steps(case.program), _with_tuples(scene))


def has_harm(case, program, scene):
    """Tells what is_harmful tells; program has the steps of the case's program."""
    _, _, sent_side, received_side, differences = scene
    quiet = ["tick"] * case.quiet
    _, first = program.run(sent_side, quiet)
    _, second = program.run(received_side, quiet)
    return any([pair != ((), ()) for pair in _differences_after(case, differences, first, second)])


class Network:
    """A case with its delays: what may happen in a scene, and where it leads."""

    def __init__(self, case, delays):
        self.case = case
        self.names = case.program.names
        self.delays = delays
        self.program = Steps(case.program)
        self.traffic = Steps(case.traffic)

    def events_in(self, scene):
        """Returns a list of the events that are possible in the scene, in their order."""
        sender, transit, _, _, _ = scene
        events = [("came", self.names[index], wait) for index, wait in sorted(set(transit))]
        if sender is not None:
            events.append(("stopped",))
        if self.may_tick(sender, transit):
            events.append(("tick",))
        if sender is not None:
            events.extend(self.sendings(sender))
        return events

    def may_tick(self, sender, transit):
        if any([wait == 0 for _, wait in transit]):
            return False
        if sender is None:
            return len(transit) > 0
        return not self.traffic.forbids(sender, "tick")

    def sendings(self, sender):
        """Returns the events with which the sender may send a message."""
        events = []
        for name in self.names:
            if not self.traffic.forbids(sender, name):
                events.extend([("sent", name, fate) for fate in self.fates(name)])
        return events

    def fates(self, name):
        fates = ["once"]
        if name in self.delays.lost:
            fates.append("lost")
        if name in self.delays.twice:
            fates.append("twice")
        return fates

    def scene_after(self, scene, event):
        """Returns the scene after a possible event."""
        _, _, sent_side, received_side, differences = scene
        sender = self.sender_after(scene, event)
        transit = self.transit_after(scene, event)
        sent, received = self.items_of(event)
        sent_side, first = self.program.run(sent_side, sent)
        received_side, second = self.program.run(received_side, received)
        differences = _differences_after(self.case, differences, first, second)
        return sender, transit, sent_side, received_side, differences

    def sender_after(self, scene, event):
        """Returns the configuration of the traffic machine after the event, or None."""
        sender, _, _, _, _ = scene
        if sender is None or event[0] == "stopped":
            return None
        sent, _ = self.items_of(event)
        sender, _ = self.traffic.run(sender, sent)
        return sender

    def transit_after(self, scene, event):
        """Returns the messages that are in transit after the event."""
        _, transit, _, _, _ = scene
        if event[0] == "tick":
            return tuple([(index, wait - 1) for index, wait in transit])
        if event[0] == "came":
            at = transit.index((self.names.index(event[1]), event[2]))
            return transit[:at] + transit[at + 1:]
        if event[0] == "sent" and not self.comes_at_once(event[1]):
            index = self.names.index(event[1])
            copies = [(index, self.delays.late[index] - 1)] * COPIES[event[2]]
            return tuple(sorted([*transit, *copies]))
        return transit

    def items_of(self, event):
        """Returns what the event adds to the sent and to the received sequence."""
        if event[0] == "tick":
            return ["tick"], ["tick"]
        if event[0] == "came":
            return [], [event[1]]
        if event[0] == "sent":
            at_once = COPIES[event[2]] if self.comes_at_once(event[1]) else 0
            return [event[1]], [event[1]] * at_once
        return [], []

    def comes_at_once(self, name):
        return self.delays.late[self.names.index(name)] == 0


def _differences_after(case, differences, first, second):
    """Returns the differences after more (channel, signal) were written on both sides."""
    after = []
    for channel, (_, signals) in enumerate(case.program.channels):
        more_first, more_second = of_channel(first, channel), of_channel(second, channel)
        after.append(extended(case.views[channel], signals, differences[channel], more_first, more_second))
    return tuple(after)


def _with_tuples(value):
    """Returns the value with tuples in the place of its lists."""
    if isinstance(value, (list, tuple)):
        return tuple([_with_tuples(part) for part in value])
    return value


def _is_plain(event):
    """Tells whether these are strings and integers: True is equal to 1, but it is no wait."""
    if not isinstance(event, (list, tuple)):
        return False
    return all([isinstance(part, (str, int)) and not isinstance(part, bool) for part in event])
