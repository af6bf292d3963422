"""Machines: what they hear, what they write, and what they forbid."""

# Where the parts of a rule or a ban stand in its tuple.
STATE = 0
ITEM = 1
TARGET = 2
CONDITIONS = 3
RESETS = 4
SIGNALS = 5


class Machine:
    """A program, or the traffic that a sender may send; it checks nothing."""

    def __init__(self, names, clocks, channels, states, rules):
        self.names = tuple(names)
        self.clocks = tuple(clocks)
        self.channels = tuple(channels)
        self.states = tuple(states)
        self.rules = tuple(rules)

    def __eq__(self, other):
        return (
            isinstance(other, Machine)
            and self.names == other.names
            and self.clocks == other.clocks
            and self.channels == other.channels
            and self.states == other.states
            and self.rules == other.rules
        )


def has_bans(machine):
    return any([_is_ban(rule) for rule in machine.rules])


def caps(machine):
    """Returns a tuple with the cap of each clock."""
    greatest = [0] * len(machine.clocks)
    for rule in machine.rules:
        for clock, _, limit in rule[CONDITIONS]:
            greatest[clock] = max(greatest[clock], limit)
    return tuple(greatest)


def start(machine):
    """Returns the start configuration."""
    return 0, (0,) * len(machine.clocks)


def forbids(machine, configuration, item):
    """Tells whether a ban is the first that applies to the item."""
    is_forbidden, _, _ = _heard(machine, caps(machine), configuration, item)
    return is_forbidden


def step(machine, configuration, item):
    """Returns the next configuration and a tuple of the (channel, signal) that are written."""
    _, after, signals = _heard(machine, caps(machine), configuration, item)
    return after, signals


def run(machine, items):
    """Returns the configuration after the items and a list with the signals of each channel."""
    configuration, signals = Steps(machine).run(start(machine), items)
    return configuration, [of_channel(signals, channel) for channel in range(len(machine.channels))]


def permitted(machine, items):
    """Tells whether no item is forbidden where it comes."""
    steps = Steps(machine)
    configuration = start(machine)
    for item in items:
        is_forbidden, configuration, _ = steps.hear(configuration, item)
        if is_forbidden:
            return False
    return True


def of_channel(signals, channel):
    """Returns the signals that are for one channel, out of a list of (channel, signal)."""
    return [signal for at, signal in signals if at == channel]


class Steps:
    """The steps of a machine, each worked out once: a search asks for the same ones again and again."""

    def __init__(self, machine):
        self.machine = machine
        self.caps = caps(machine)
        self.known = {}

    def hear(self, configuration, item):
        """Returns whether the item is forbidden, the next configuration, and the (channel, signal) written."""
        if (configuration, item) not in self.known:
            self.known[(configuration, item)] = _heard(self.machine, self.caps, configuration, item)
        return self.known[(configuration, item)]

    def forbids(self, configuration, item):
        is_forbidden, _, _ = self.hear(configuration, item)
        return is_forbidden

    def run(self, configuration, items):
        """Returns the configuration after the items and a list of the (channel, signal) written."""
        written = []
        for item in items:
            _, configuration, signals = self.hear(configuration, item)
            written.extend(signals)
        return configuration, written


def _heard(machine, greatest, configuration, item):
    """Returns what Steps.hear does; greatest has the cap of each clock."""
    state, clocks = configuration
    clocks = _clocks_at(greatest, clocks, item)
    rule = _first_rule(machine, state, clocks, item)
    if rule is None or _is_ban(rule):
        return rule is not None, (state, clocks), ()
    return False, (rule[TARGET], _with_resets(clocks, rule[RESETS])), rule[SIGNALS]


def _clocks_at(greatest, clocks, item):
    """Returns the clocks with which conditions are compared when the item is heard."""
    if item != "tick":
        return tuple(clocks)
    return tuple([min(value + 1, cap) for value, cap in zip(clocks, greatest)])


def _first_rule(machine, state, clocks, item):
    """Returns the first rule or ban that applies, or None."""
    for rule in machine.rules:
        if rule[STATE] == state and rule[ITEM] == item and _all_hold(rule[CONDITIONS], clocks):
            return rule
    return None


def _all_hold(conditions, clocks):
    for clock, comparison, limit in conditions:
        is_under = clocks[clock] < limit
        if is_under != (comparison == "under"):
            return False
    return True


def _is_ban(rule):
    return rule[TARGET] is None


def _with_resets(clocks, resets):
    return tuple([0 if clock in resets else value for clock, value in enumerate(clocks)])
