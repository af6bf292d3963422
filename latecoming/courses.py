"""What a sender may do in a case, and what its program makes of what is sent and of what is received.

A scene is a tuple of the sender's configuration (None if it has stopped), what waits, the program's
configurations after both sequences, and the differences of what was written.
"""

from latecoming.cases import extended
from latecoming.machines import Steps, of_channel, start


class Course:
    """A case with the steps of its two machines, which all searches of the case can share."""

    def __init__(self, case):
        self.case = case
        self.names = case.program.names
        self.program = Steps(case.program)
        self.traffic = Steps(case.traffic)

    def beginning(self, waiting):
        """Returns the scene before the first event."""
        begin = start(self.case.program)
        differences = [((), ()) for _ in self.case.program.channels]
        return start(self.case.traffic), waiting, begin, begin, tuple(differences)

    def may_send(self, sender, item):
        """Tells whether the sender has not stopped and the traffic machine does not forbid the item."""
        return sender is not None and not self.traffic.forbids(sender, item)

    def follow(self, scene, event, waiting, sent, received):
        """Returns the scene after an event, from what then waits and what the event adds to both sequences."""
        sender, _, sent_side, received_side, differences = scene
        sender = self.sender_after(sender, event, sent)
        sent_side, first = self.program.run(sent_side, sent)
        received_side, second = self.program.run(received_side, received)
        differences = _differences_after(self.case, differences, first, second)
        return sender, waiting, sent_side, received_side, differences

    def sender_after(self, sender, event, sent):
        """Returns the configuration of the traffic machine after the event, or None."""
        if sender is None or event[0] == "stopped":
            return None
        sender, _ = self.traffic.run(sender, sent)
        return sender

    def has_harm(self, scene):
        """Tells whether some channel does not look the same after the quiet time."""
        _, _, sent_side, received_side, differences = scene
        quiet = ["tick"] * self.case.quiet
        _, first = self.program.run(sent_side, quiet)
        _, second = self.program.run(received_side, quiet)
        return any([pair != ((), ()) for pair in _differences_after(self.case, differences, first, second)])


def _differences_after(case, differences, first, second):
    """Returns the differences after more (channel, signal) were written on both sides."""
    after = []
    for channel, (_, signals) in enumerate(case.program.channels):
        more_first, more_second = of_channel(first, channel), of_channel(second, channel)
        after.append(extended(case.views[channel], signals, differences[channel], more_first, more_second))
    return tuple(after)
