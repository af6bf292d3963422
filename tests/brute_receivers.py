"""Polling and holding receivers, worked out from the first event on, as points 23 and 24 define them.

A receiver is given as a function that tells before which tick a message is heard, counted from 1, if so
many ticks were before it.
"""

from brute import differences
from latecoming.machines import forbids, run


def polling(period, offset=0):
    def heard_at(ticks):
        return next(tick for tick in range(ticks + 1, ticks + period + 1) if (tick - offset) % period == 0)

    return heard_at


def holding(hold):
    return lambda ticks: ticks + hold


def heard(items, heard_at, ticks_follow=True):
    """Returns what is heard of the items, and of the ticks that follow until no message waits."""
    due = []
    ticks = 0
    for item in items:
        if item == "tick":
            ticks += 1
        else:
            due.append((heard_at(ticks), item))
    last = max([ticks] + [tick for tick, _ in due if ticks_follow])
    found = []
    for tick in range(1, last + 1):
        found += [name for at, name in due if at == tick] + ["tick"]
    return found


class History:
    """A sequence of events, and what follows from it."""

    def __init__(self, case, heard_at, period=None, events=()):
        self.case = case
        self.heard_at = heard_at
        self.period = period
        self.events = list(events)
        self.stopped = ("stopped",) in events
        self.sent = [event[1] if event[0] == "sent" else "tick" for event in events if event[0] != "stopped"]
        self.ticks = self.sent.count("tick")
        self.waiting = []
        for at, item in enumerate(self.sent):
            due = heard_at(self.sent[:at].count("tick"))
            if item != "tick" and due > self.ticks:
                self.waiting.append((item, due))

    def may_send(self, item):
        configuration, _ = run(self.case.traffic, self.sent)
        return not self.stopped and not forbids(self.case.traffic, configuration, item)

    def followers(self):
        events = [] if self.stopped else [("stopped",)]
        if self.may_send("tick") or (self.stopped and self.waiting != []):
            events.append(("tick",))
        events += [("sent", name) for name in self.case.program.names if self.may_send(name)]
        return [History(self.case, self.heard_at, self.period, self.events + [event]) for event in events]

    def is_complete(self):
        return self.stopped and self.waiting == []

    def is_harmful(self):
        quiet = ["tick"] * self.case.quiet
        _, first = run(self.case.program, self.sent + quiet)
        _, second = run(self.case.program, heard(self.sent, self.heard_at, False) + quiet)
        return any(pair != ((), ()) for pair in differences(self.case, first, second))

    def scene(self):
        sender, _ = run(self.case.traffic, self.sent)
        if self.period is None:
            waiting = tuple((name, due - self.ticks) for name, due in self.waiting)
        else:
            waiting = tuple(name for name, _ in self.waiting), self.ticks % self.period
        sent_side, first = run(self.case.program, self.sent)
        received_side, second = run(self.case.program, heard(self.sent, self.heard_at, False))
        written = differences(self.case, first, second)
        return None if self.stopped else sender, waiting, sent_side, received_side, written


def search(case, heard_at, period=None, most_kept=1000, most_waiting=6):
    """Returns the first harmful events that the search of point 24 finds, or None, or `large`.

    A polling receiver is given with its period, a holding one without.
    """
    kept = [History(case, heard_at, period)]
    scenes = {kept[0].scene()}
    for history in kept:
        for follower in history.followers():
            if len(follower.waiting) > most_waiting:
                return "large"
            if follower.scene() in scenes:
                continue
            if len(kept) == most_kept:
                return "large"
            kept.append(follower)
            scenes.add(follower.scene())
            if follower.is_complete() and follower.is_harmful():
                return follower.events
    return None
