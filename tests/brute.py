"""Deliveries worked out from their first event on, each time, as the document defines them.

Nothing here is kept from one event to the next but the events themselves, so that the program's
scenes are compared with what they stand for.
"""

import itertools
from collections import Counter

from latecoming.machines import forbids, run

FATES = ("once", "lost", "twice")


class History:
    """A delivery, and what follows from its events."""

    def __init__(self, case, delays, events=()):
        self.case = case
        self.delays = delays
        self.events = list(events)
        self.sent = []
        self.received = []
        self.waiting = []
        self.stopped = False
        for event in events:
            self.happens(*event)

    def happens(self, kind, name=None, how=None):
        if kind == "stopped":
            self.stopped = True
        elif kind == "tick":
            self.sent.append("tick")
            self.received.append("tick")
            self.waiting = [(waiter, wait - 1) for waiter, wait in self.waiting]
        elif kind == "came":
            self.waiting.remove((name, how))
            self.received.append(name)
        else:
            self.sent.append(name)
            lateness = self.delays.late[self.case.program.names.index(name)]
            for _ in range({"once": 1, "lost": 0, "twice": 2}[how]):
                if lateness == 0:
                    self.received.append(name)
                else:
                    self.waiting.append((name, lateness - 1))

    def sender(self):
        configuration, _ = run(self.case.traffic, self.sent)
        return configuration

    def may_send(self, item):
        return not self.stopped and not forbids(self.case.traffic, self.sender(), item)

    def events_in_order(self):
        """Tries every event that there is, in the order of point 18."""
        names = self.case.program.names
        tried = [("came", name, wait) for name in names for wait in range(9)]
        tried += [("stopped",), ("tick",)]
        tried += [("sent", name, fate) for name in names for fate in FATES]
        return [event for event in tried if self.is_possible(*event)]

    def is_possible(self, kind, name=None, how=None):
        if kind == "came":
            return (name, how) in self.waiting
        if kind == "stopped":
            return not self.stopped
        if kind == "tick":
            nothing_due = all(wait > 0 for _, wait in self.waiting)
            return nothing_due and (self.may_send("tick") or (self.stopped and self.waiting != []))
        allowed = {"once": self.case.program.names, "lost": self.delays.lost, "twice": self.delays.twice}
        return name in allowed[how] and self.may_send(name)

    def is_complete(self):
        return self.stopped and self.waiting == []

    def is_harmful(self):
        quiet = ["tick"] * self.case.quiet
        _, first = run(self.case.program, self.sent + quiet)
        _, second = run(self.case.program, self.received + quiet)
        return any(pair != ((), ()) for pair in differences(self.case, first, second))

    def scene(self):
        names = self.case.program.names
        sent_side, first = run(self.case.program, self.sent)
        received_side, second = run(self.case.program, self.received)
        return (
            None if self.stopped else self.sender(),
            tuple(sorted((names.index(name), wait) for name, wait in self.waiting)),
            sent_side,
            received_side,
            differences(self.case, first, second),
        )

    def followers(self):
        return [History(self.case, self.delays, self.events + [event]) for event in self.events_in_order()]


def differences(case, first, second):
    """Returns the difference for each channel of what two runs wrote."""
    found = []
    for view, (_, signals), one, other in zip(case.views, case.program.channels, first, second):
        found.append(difference(view, signals, one, other))
    return tuple(found)


def difference(view, signals, first, second):
    if view == "ignored":
        return (), ()
    if view == "unordered":
        return tuple(
            tuple(sorted((Counter(one) - Counter(other)).elements(), key=signals.index))
            for one, other in ((first, second), (second, first))
        )
    pairs = itertools.takewhile(lambda pair: pair[0] == pair[1], zip(first, second))
    begin = len(list(pairs))
    return tuple(first[begin:]), tuple(second[begin:])


def first_harmful(case, delays, longest):
    """Returns the first harmful one of all deliveries with so many events at most, or None."""
    layer = [History(case, delays)]
    for _ in range(longest + 1):
        for history in layer:
            if history.is_complete() and history.is_harmful():
                return history.events
        layer = [follower for history in layer for follower in history.followers()]
    return None


def search(case, delays, most_kept=1000, most_in_transit=6):
    """Returns the histories that the search of point 20 keeps, and whether the last one is harmful.

    Returns None in the place of both if the search would raise TooLarge.
    """
    kept = [History(case, delays)]
    scenes = {kept[0].scene()}
    for history in kept:
        for follower in history.followers():
            if len(follower.waiting) > most_in_transit:
                return None, None
            if follower.scene() in scenes:
                continue
            if len(kept) == most_kept:
                return None, None
            kept.append(follower)
            scenes.add(follower.scene())
            if follower.is_complete() and follower.is_harmful():
                return kept, True
    return kept, False
