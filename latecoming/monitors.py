"""Monitors, which watch a running network, and their journals."""

from latecoming.deliveries import COPIES, fates_of
from latecoming.errors import Changed, Impossible, MonitorFull, UnknownMessage
from latecoming.machines import Steps, start

MOST_OBSERVATIONS = 2000
MOST_POSSIBILITIES = 500

# The checksum of a journal is less than this.
MODULUS = 65521


class Monitor:
    """Is told what is sent, what comes and when a tick passes, and keeps all that may be in transit.

    A possibility has for each name a tuple with how many messages can still wait for 0, 1, 2 .. ticks.
    For a name with lateness 0 it has one number: how many copies have the wait -1, and are to come at once.
    """

    def __init__(self, case, delays):
        self.names = case.program.names
        self.delays = delays
        self.traffic = Steps(case.traffic)
        self.sender = start(case.traffic)
        self.possibilities = [tuple([(0,) * max(1, lateness) for lateness in delays.late])]
        self.lines = []
        self.checksum = 1
        self.has_closed = False

    @property
    def is_closed(self):
        return self.has_closed

    @property
    def observations(self):
        """The number of observations that returned `ok`."""
        return len(self.lines)

    def sent(self, name):
        """Takes in that a message is sent; returns `ok`, `forbidden`, `impossible` or `closed`."""
        index = self.index_of(name)
        longest = max(0, self.delays.late[index] - 1)
        after = {}
        for possibility in self.possibilities:
            if not self.has_to_come(possibility):
                for fate in fates_of(self.delays, name):
                    after[_with_more(possibility, index, longest, COPIES[fate])] = True
        return self.observe(f"sent {name}", list(after), name)

    def came(self, name):
        """Takes in that a message comes; returns `ok`, `impossible` or `closed`."""
        index = self.index_of(name)
        after = {}
        for possibility in self.possibilities:
            if self.delays.late[index] == 0 or not self.has_to_come(possibility):
                for wait, many in enumerate(possibility[index]):
                    if many > 0:
                        after[_with_more(possibility, index, wait, -1)] = True
        return self.observe(f"came {name}", list(after), None)

    def tick(self):
        """Takes in that a tick passes; returns `ok`, `forbidden`, `impossible` or `closed`."""
        after = []
        for possibility in self.possibilities:
            if all([waiting[0] == 0 for waiting in possibility]):
                after.append(tuple([waiting[1:] + (0,) for waiting in possibility]))
        return self.observe("tick", after, "tick")

    def in_transit(self):
        """Returns the least and the greatest number of messages in transit, as a pair for each name."""
        found = []
        for index in range(len(self.names)):
            many = [sum(possibility[index]) for possibility in self.possibilities]
            found.append((min(many), max(many)))
        return found

    def journal(self):
        """Returns a line for each observation that returned `ok`."""
        return "".join(self.lines)

    def index_of(self, name):
        if name not in self.names:
            raise UnknownMessage(name)
        return self.names.index(name)

    def has_to_come(self, possibility):
        """Tells whether copies are to come at once, before anything else may happen."""
        return any([lateness == 0 and waiting[0] > 0 for lateness, waiting in zip(self.delays.late, possibility)])

    def observe(self, words, after, item):
        """Takes in an observation, if it can be made.

        It leads to the possibilities `after`; `item` is what the traffic machine then hears, or None.
        """
        if self.has_closed:
            return "closed"
        if len(self.lines) == MOST_OBSERVATIONS:
            raise MonitorFull(f"there were {MOST_OBSERVATIONS} observations")
        if item is not None and self.traffic.forbids(self.sender, item):
            self.has_closed = True
            return "forbidden"
        if len(after) == 0:
            self.has_closed = True
            return "impossible"
        if len(after) > MOST_POSSIBILITIES:
            raise MonitorFull(f"more than {MOST_POSSIBILITIES} possibilities would be kept")
        if item is not None:
            _, self.sender, _ = self.traffic.hear(self.sender, item)
        self.possibilities = after
        self.checksum = _checksum_after(self.checksum, words)
        self.lines.append(f"{words} {self.checksum}\n")
        return "ok"


def replay(case, delays, text):
    """Returns a new monitor that has repeated the observations of a journal."""
    observations = _read_journal(case.program.names, text)
    monitor = Monitor(case, delays)
    for line, parts in enumerate(observations, start=1):
        if not _is_repeated(monitor, parts):
            raise Impossible(line)
    return monitor


def _read_journal(names, text):
    """Returns the words of the observation of each complete line; checks their forms and checksums."""
    observations = []
    checksum = 1
    lines = text.split("\n")[:-1]
    for at, line in enumerate(lines, start=1):
        words, _, told = line.rpartition(" ")
        checksum = _checksum_after(checksum, words)
        parts = words.split(" ")
        if not _is_observation(names, parts) or told != str(checksum):
            raise Changed(at)
        observations.append(parts)
    return observations


def _is_observation(names, parts):
    if parts == ["tick"]:
        return True
    return len(parts) == 2 and parts[0] in ("sent", "came") and parts[1] in names


def _is_repeated(monitor, parts):
    """Repeats an observation, and tells whether it could be made."""
    try:
        return _answer(monitor, parts) == "ok"
    except MonitorFull:
        return False


def _answer(monitor, parts):
    if parts[0] == "sent":
        return monitor.sent(parts[1])
    if parts[0] == "came":
        return monitor.came(parts[1])
    return monitor.tick()


def _checksum_after(checksum, words):
    for character in words:
        checksum = (256 * checksum + ord(character)) % MODULUS
    return checksum


def _with_more(possibility, index, wait, more):
    """Returns the possibility with so many more messages of a name that can wait for so many ticks."""
    waiting = list(possibility[index])
    waiting[wait] += more
    return possibility[:index] + (tuple(waiting),) + possibility[index + 1:]
