"""A monitor as points 28 to 33 define it: possibilities are the tuples of the messages in transit."""

from latecoming.machines import forbids, run

COPIES = {"once": 1, "lost": 0, "twice": 2}


class Watch:
    """What a monitor keeps, with the whole sequence of what the traffic machine has heard."""

    def __init__(self, case, delays):
        self.case = case
        self.delays = delays
        self.possibilities = {()}
        self.heard = []
        self.lines = []
        self.closed = False

    def observe(self, kind, name=None):
        """Returns what the monitor returns, or `full` or `unknown` for the errors."""
        if kind != "tick" and name not in self.case.program.names:
            return "unknown"
        if self.closed:
            return "closed"
        if len(self.lines) == 2000:
            return "full"
        item = "tick" if kind == "tick" else name
        if kind != "came" and forbids(self.case.traffic, run(self.case.traffic, self.heard)[0], item):
            self.closed = True
            return "forbidden"
        after = {found for possibility in self.possibilities for found in self.after(possibility, kind, name)}
        if after == set():
            self.closed = True
            return "impossible"
        if len(after) > 500:
            return "full"
        self.possibilities = after
        if kind != "came":
            self.heard.append(item)
        self.lines.append(kind if kind == "tick" else f"{kind} {name}")
        return "ok"

    def after(self, possibility, kind, name):
        """Returns the possibilities that follow from one."""
        at_once = [message for message in possibility if message[1] == -1]
        if kind == "tick":
            if at_once or any(wait == 0 for _, wait in possibility):
                return []
            return [tuple((index, wait - 1) for index, wait in possibility)]
        index = self.case.program.names.index(name)
        if kind == "came":
            found = [message for message in (at_once or possibility) if message[0] == index]
            return [self.without(possibility, message) for message in found]
        if at_once:
            return []
        message = (index, self.delays.late[index] - 1)
        fates = ["once"] + ["lost"] * (name in self.delays.lost) + ["twice"] * (name in self.delays.twice)
        return [tuple(sorted(possibility + (message,) * COPIES[fate])) for fate in fates]

    def without(self, possibility, message):
        left = list(possibility)
        left.remove(message)
        return tuple(left)

    def in_transit(self):
        found = []
        for index in range(len(self.case.program.names)):
            many = [sum(at == index for at, _ in possibility) for possibility in self.possibilities]
            found.append((min(many), max(many)))
        return found

    def journal(self):
        return journal_of(self.lines)


def journal_of(lines):
    """Returns the journal of observations: all their characters are the digits of one long number."""
    text, read = "", b"\x01"
    for line in lines:
        read += line.encode("latin-1")
        text += f"{line} {int.from_bytes(read, 'big') % 65521}\n"
    return text
