"""Machines: what they hear, what they write, and what they forbid."""

# Where the parts of a rule or a ban stand in its tuple.
STATE = 0
ITEM = 1
TARGET = 2
CONDITIONS = 3
RESETS = 4
SIGNALS = 5


class Machine:
    """A program, or the traffic that a sender may send; it checks nothing."""

    def __init__(self, names, clocks, channels, states, rules):
        self.names = tuple(names)
        self.clocks = tuple(clocks)
        self.channels = tuple(channels)
        self.states = tuple(states)
        self.rules = tuple(rules)

    def __eq__(self, other):
        return (
            isinstance(other, Machine)
            and self.names == other.names
            and self.clocks == other.clocks
            and self.channels == other.channels
            and self.states == other.states
            and self.rules == other.rules
        )


def caps(machine):
    """Returns a tuple with the cap of each clock."""
    greatest = [0] * len(machine.clocks)
    for rule in machine.rules:
        for clock, _, limit in rule[CONDITIONS]:
            greatest[clock] = max(greatest[clock], limit)
    return tuple(greatest)


def start(machine):
    """Returns the start configuration."""
    return 0, (0,) * len(machine.clocks)


def forbids(machine, configuration, item):
    """Tells whether a ban is the first that applies to the item."""
    state, clocks = configuration
    rule = _first_rule(machine, state, _clocks_at(machine, clocks, item), item)
    return rule is not None and _is_ban(rule)


def step(machine, configuration, item):
    """Returns the next configuration and a tuple of the (channel, signal) that are written."""
    state, clocks = configuration
    clocks = _clocks_at(machine, clocks, item)
    rule = _first_rule(machine, state, clocks, item)
    if rule is None or _is_ban(rule):
        return (state, clocks), ()
    return (rule[TARGET], _with_resets(clocks, rule[RESETS])), rule[SIGNALS]


def run(machine, items):
    """Returns the configuration after the items and a list with the signals of each channel."""
    configuration = start(machine)
    written = [[] for _ in machine.channels]
    for item in items:
        configuration, signals = step(machine, configuration, item)
        for channel, signal in signals:
            written[channel].append(signal)
    return configuration, written


def permitted(machine, items):
    """Tells whether no item is forbidden where it comes."""
    configuration = start(machine)
    for item in items:
        if forbids(machine, configuration, item):
            return False
        configuration, _ = step(machine, configuration, item)
    return True


def _clocks_at(machine, clocks, item):
    """Returns the clocks with which conditions are compared when the item is heard."""
    if item != "tick":
        return tuple(clocks)
    return tuple([min(value + 1, cap) for value, cap in zip(clocks, caps(machine))])


def _first_rule(machine, state, clocks, item):
    """Returns the first rule or ban that applies, or None."""
    for rule in machine.rules:
        if rule[STATE] == state and rule[ITEM] == item and _all_hold(rule[CONDITIONS], clocks):
            return rule
    return None


def _all_hold(conditions, clocks):
    for clock, comparison, limit in conditions:
        is_under = clocks[clock] < limit
        if is_under != (comparison == "under"):
            return False
    return True


def _is_ban(rule):
    return rule[TARGET] is None


def _with_resets(clocks, resets):
    return tuple([0 if clock in resets else value for clock, value in enumerate(clocks)])
