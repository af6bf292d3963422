"""Deliveries: how messages may come, event by event, and the scenes to which they lead."""

from latecoming.courses import Course

# How many copies of a message travel with each fate.
COPIES = {"once": 1, "lost": 0, "twice": 2}


def first_scene(case):
    """Returns the scene of the empty delivery."""
    return Course(case).beginning(())


def possible_events(case, delays, scene):
    """Returns a list of the events that are possible in the scene, in their order."""
    return Network(Course(case), delays).events_in(with_tuples(scene))


def scene_after(case, delays, scene, event):
    """Returns the scene after a possible event."""
    return Network(Course(case), delays).scene_after(with_tuples(scene), event)


def is_delivery(case, delays, events):
    """Tells whether each event is possible after those before it."""
    return Network(Course(case), delays).scene_of(events) is not None


def sequences(case, delays, events):
    """Returns a pair of lists, the sent and the received sequence of a delivery."""
    network = Network(Course(case), delays)
    sent, received = [], []
    for event in events:
        more_sent, more_received = network.items_of(event)
        sent.extend(more_sent)
        received.extend(more_received)
    return sent, received


def is_complete(scene):
    """Tells whether the sender has stopped and nothing is in transit."""
    sender, transit, _, _, _ = scene
    return sender is None and len(transit) == 0


def is_harmful(case, scene):
    """Tells whether some channel of a complete scene does not look the same after the quiet time."""
    return Course(case).has_harm(with_tuples(scene))


def fates_of(delays, name):
    """Returns the fates that a message of this name may have, in their order."""
    fates = ["once"]
    if name in delays.lost:
        fates.append("lost")
    if name in delays.twice:
        fates.append("twice")
    return fates


class Network:
    """A course with delays: what may happen in a scene, and where it leads."""

    def __init__(self, course, delays):
        self.course = course
        self.names = course.names
        self.delays = delays

    def first_scene(self):
        return self.course.beginning(())

    def waiting_in(self, scene):
        """Returns the messages in transit."""
        _, transit, _, _, _ = scene
        return transit

    def events_in(self, scene):
        """Returns a list of the events that are possible in the scene, in their order."""
        sender, transit, _, _, _ = scene
        events = [("came", self.names[index], wait) for index, wait in sorted(set(transit))]
        if sender is not None:
            events.append(("stopped",))
        if self.may_tick(sender, transit):
            events.append(("tick",))
        events.extend(self.sendings(sender))
        return events

    def may_tick(self, sender, transit):
        if any([wait == 0 for _, wait in transit]):
            return False
        if sender is None:
            return len(transit) > 0
        return self.course.may_send(sender, "tick")

    def sendings(self, sender):
        """Returns the events with which the sender may send a message."""
        events = []
        for name in self.names:
            if self.course.may_send(sender, name):
                events.extend([("sent", name, fate) for fate in fates_of(self.delays, name)])
        return events

    def scene_after(self, scene, event):
        """Returns the scene after a possible event."""
        _, transit, _, _, _ = scene
        sent, received = self.items_of(event)
        return self.course.follow(scene, event, self.transit_after(transit, event), sent, received)

    def scene_of(self, events):
        """Returns the scene to which the events lead, or None if they are no delivery."""
        if not isinstance(events, (list, tuple)):
            return None
        scene = self.first_scene()
        for event in events:
            if not _is_plain(event) or tuple(event) not in self.events_in(scene):
                return None
            scene = self.scene_after(scene, event)
        return scene

    def transit_after(self, transit, event):
        """Returns the messages that are in transit after the event."""
        if event[0] == "tick":
            return tuple([(index, wait - 1) for index, wait in transit])
        if event[0] == "came":
            at = transit.index((self.names.index(event[1]), event[2]))
            return transit[:at] + transit[at + 1:]
        if event[0] == "sent" and not self.comes_at_once(event[1]):
            index = self.names.index(event[1])
            copies = [(index, self.delays.late[index] - 1)] * COPIES[event[2]]
            return tuple(sorted([*transit, *copies]))
        return transit

    def items_of(self, event):
        """Returns what the event adds to the sent and to the received sequence."""
        if event[0] == "tick":
            return ["tick"], ["tick"]
        if event[0] == "came":
            return [], [event[1]]
        if event[0] == "sent":
            at_once = COPIES[event[2]] if self.comes_at_once(event[1]) else 0
            return [event[1]], [event[1]] * at_once
        return [], []

    def comes_at_once(self, name):
        return self.delays.late[self.names.index(name)] == 0


def with_tuples(value):
    """Returns the value with tuples in the place of its lists."""
    if isinstance(value, (list, tuple)):
        return tuple([with_tuples(part) for part in value])
    return value


def _is_plain(event):
    """Tells whether these are strings and integers: True is equal to 1, but it is no wait."""
    if not isinstance(event, (list, tuple)):
        return False
    return all([isinstance(part, (str, int)) and not isinstance(part, bool) for part in event])
