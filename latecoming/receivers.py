"""Receivers that look at what has arrived only at times: polling and holding."""

from latecoming.courses import Course
from latecoming.search import Search


def first_polling_harm(case, period, offset=0):
    """Returns the first harmful sequence of events of a polling receiver, a list, or None."""
    return Search(Reception(Course(case), Polling(period, offset))).harmful_delivery()


def first_holding_harm(case, hold):
    """Returns the first harmful sequence of events of a holding receiver, a list, or None."""
    return Search(Reception(Course(case), Holding(hold))).harmful_delivery()


def heard_by_polling(items, period, offset=0):
    """Returns the list of the items that a polling receiver hears when the sender sends these and stops."""
    return _heard(items, Polling(period, offset))


def heard_by_holding(items, hold):
    """Returns the list of the items that a holding receiver hears when the sender sends these and stops."""
    return _heard(items, Holding(hold))


class Polling:
    """Hears all waiting messages at some ticks; what waits is a pair of them and the ticks modulo the period."""

    def __init__(self, period, offset):
        # A period below 1 is beyond the limit; it is taken as 1, so that nothing waits for ever.
        self.period = max(1, period)
        self.offset = offset

    def empty(self):
        return (), 0

    def messages_of(self, waiting):
        messages, _ = waiting
        return messages

    def with_message(self, waiting, message):
        messages, ticks = waiting
        return (*messages, message), ticks

    def after_tick(self, waiting):
        """Returns the messages that are heard before the tick, and what waits after it."""
        messages, ticks = waiting
        ticks = (ticks + 1) % self.period
        if (ticks - self.offset) % self.period == 0:
            return messages, ((), ticks)
        return (), (messages, ticks)


class Holding:
    """Hears each message after a time; what waits are pairs of a message and the ticks until it is heard."""

    def __init__(self, hold):
        self.hold = hold

    def empty(self):
        return ()

    def messages_of(self, waiting):
        return tuple([message for message, _ in waiting])

    def with_message(self, waiting, message):
        return (*waiting, (message, self.hold))

    def after_tick(self, waiting):
        """Returns the messages that are heard before the tick, and what waits after it."""
        # A hold below 1 is beyond the limit; it is taken as 1, so that nothing waits for ever.
        heard = [message for message, left in waiting if left <= 1]
        return tuple(heard), tuple([(message, left - 1) for message, left in waiting if left > 1])


class Reception:
    """A course with a receiver: what may happen in a scene, and where it leads."""

    def __init__(self, course, receiver):
        self.course = course
        self.receiver = receiver

    def first_scene(self):
        return self.course.beginning(self.receiver.empty())

    def waiting_in(self, scene):
        """Returns the messages that wait."""
        _, waiting, _, _, _ = scene
        return self.receiver.messages_of(waiting)

    def events_in(self, scene):
        """Returns a list of the events that are possible in the scene, in their order."""
        sender, _, _, _, _ = scene
        if sender is None:
            return [("tick",)] if len(self.waiting_in(scene)) > 0 else []
        events = [("stopped",)]
        if self.course.may_send(sender, "tick"):
            events.append(("tick",))
        events.extend([("sent", name) for name in self.course.names if self.course.may_send(sender, name)])
        return events

    def scene_after(self, scene, event):
        """Returns the scene after a possible event."""
        _, waiting, _, _, _ = scene
        sent, received = [], []
        if event[0] == "tick":
            heard, waiting = self.receiver.after_tick(waiting)
            sent, received = ["tick"], [*heard, "tick"]
        elif event[0] == "sent":
            waiting = self.receiver.with_message(waiting, event[1])
            sent = [event[1]]
        return self.course.follow(scene, event, waiting, sent, received)


def _heard(items, receiver):
    """Returns what the receiver hears of the items, and of the ticks that follow until nothing waits."""
    heard, waiting = [], receiver.empty()
    for item in items:
        if item == "tick":
            messages, waiting = receiver.after_tick(waiting)
            heard.extend([*messages, "tick"])
        else:
            waiting = receiver.with_message(waiting, item)
    while len(receiver.messages_of(waiting)) > 0:
        messages, waiting = receiver.after_tick(waiting)
        heard.extend([*messages, "tick"])
    return heard
