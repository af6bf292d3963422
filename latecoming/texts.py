"""Reads and writes the texts of machines."""

from latecoming.errors import Malformed, Misplaced, Repeated, TooMany, Unknown
from latecoming.machines import Machine

LETTERS = "abcdefghijklmnopqrstuvwxyz"
DIGITS = "0123456789"
MOST_CHARACTERS = 20000
LONGEST_WORD = 8
GREATEST_LIMIT = 60
MOST_NAMES = 4
MOST_CLOCKS = 3
MOST_CHANNELS = 3
MOST_SIGNALS = 4
MOST_STATES = 20
MOST_RULES = 200
MOST_CONDITIONS = 3
MOST_RESETS = 3
MOST_EMITS = 4


def parse_machine(text, *, traffic=False):
    """Returns the machine of a text; with traffic=True that of a traffic machine."""
    if len(text) > MOST_CHARACTERS:
        raise TooMany(0)
    lines = text.split("\n")
    draft = Draft(traffic)
    for at, line in enumerate(lines, start=1):
        draft.take(at, line.split(" "))
    if draft.states == []:
        raise Misplaced(len(lines) + 1)
    return Machine(draft.names, draft.clocks, draft.channels, draft.states, draft.rules)


def format_machine(machine):
    """Returns the text of a machine."""
    lines = [" ".join(["hears", *machine.names])]
    if len(machine.clocks) > 0:
        lines.append(" ".join(["clocks", *machine.clocks]))
    for name, signals in machine.channels:
        lines.append(" ".join(["channel", name, *signals]))
    for state in machine.states:
        lines.append(f"state {state}")
    for rule in machine.rules:
        lines.append(_rule_line(machine, rule))
    return "\n".join(lines)


def _rule_line(machine, rule):
    """Returns the line of a rule or a ban."""
    state, item, target, conditions, resets, signals = rule
    if target is None:
        parts = [f"ban {machine.states[state]} {item}"]
    else:
        parts = [f"rule {machine.states[state]} {item} {machine.states[target]}"]
    for clock, comparison, limit in conditions:
        parts.append(f"when {machine.clocks[clock]} {comparison} {limit}")
    for clock in resets:
        parts.append(f"reset {machine.clocks[clock]}")
    for channel, signal in signals:
        name, _ = machine.channels[channel]
        parts.append(f"emit {name} {signal}")
    return " ".join(parts)


def _consists_of(part, characters):
    return all([character in characters for character in part])


def _is_word(part):
    return 1 <= len(part) <= LONGEST_WORD and _consists_of(part, LETTERS)


def _is_state(part):
    return 1 <= len(part) <= LONGEST_WORD and part[0] in LETTERS and _consists_of(part, LETTERS + DIGITS)


def _is_limit(part):
    # The length comes first: int() refuses numbers of very many digits.
    return 1 <= len(part) <= 2 and _consists_of(part, DIGITS) and part[0] != "0" and int(part) <= GREATEST_LIMIT


def _are_words(parts, most):
    """Tells whether the parts are 1 to `most` different words."""
    if not 1 <= len(parts) <= most or len(set(parts)) != len(parts):
        return False
    return all([_is_word(part) for part in parts])


def _is_hears_line(parts):
    return _are_words(parts[1:], MOST_NAMES) and "tick" not in parts[1:]


def _is_clocks_line(parts):
    return _are_words(parts[1:], MOST_CLOCKS)


def _is_channel_line(parts):
    return len(parts) > 2 and _is_word(parts[1]) and _are_words(parts[2:], MOST_SIGNALS)


def _is_state_line(parts):
    return len(parts) == 2 and _is_state(parts[1])


def _is_rule_line(parts):
    if len(parts) < 4 or not _is_state(parts[1]) or not _is_word(parts[2]) or not _is_state(parts[3]):
        return False
    conditions, resets, emits, rest = _clauses(parts[4:])
    return _are_conditions(conditions) and _are_resets(resets) and _are_emits(emits) and rest == []


def _is_ban_line(parts):
    if len(parts) < 3 or not _is_state(parts[1]) or not _is_word(parts[2]):
        return False
    conditions, rest = _cut(parts[3:], "when", 4, MOST_CONDITIONS)
    return _are_conditions(conditions) and rest == []


def _are_conditions(clauses):
    for clause in clauses:
        if len(clause) != 4 or not _is_word(clause[1]):
            return False
        if clause[2] not in ("under", "from") or not _is_limit(clause[3]):
            return False
    return True


def _are_resets(clauses):
    return all([len(clause) == 2 and _is_word(clause[1]) for clause in clauses])


def _are_emits(clauses):
    return all([len(clause) == 3 and _is_word(clause[1]) and _is_word(clause[2]) for clause in clauses])


def _clauses(parts):
    """Returns the conditions, resets and signals that stand behind the head of a rule, and the rest."""
    conditions, rest = _cut(parts, "when", 4, MOST_CONDITIONS)
    resets, rest = _cut(rest, "reset", 2, MOST_RESETS)
    emits, rest = _cut(rest, "emit", 3, MOST_EMITS)
    return conditions, resets, emits, rest


def _cut(parts, word, size, most):
    """Cuts at most `most` clauses that begin with the word off the front; returns them and the rest.

    A clause at the end of the parts may be too short.
    """
    many = 0
    while many < most and parts[many * size:many * size + 1] == [word]:
        many += 1
    clauses = [parts[at * size:at * size + size] for at in range(many)]
    return clauses, parts[many * size:]


FORMS = {
    "hears": _is_hears_line,
    "clocks": _is_clocks_line,
    "channel": _is_channel_line,
    "state": _is_state_line,
    "rule": _is_rule_line,
    "ban": _is_ban_line,
}

# What may stand directly before a line of each kind; the empty string is the beginning of the text.
BEFORE = {
    "hears": ("",),
    "clocks": ("hears",),
    "channel": ("hears", "clocks", "channel"),
    "state": ("hears", "clocks", "channel", "state"),
    "rule": ("state", "rule", "ban"),
    "ban": ("state", "rule", "ban"),
}


def _has_form(parts):
    if parts[0] not in FORMS:
        return False
    is_line = FORMS[parts[0]]
    return is_line(parts)


def _demand(words, word, line):
    if word not in words:
        raise Unknown(line, word)


def _place(words, word, line):
    """Returns the index of a word that the machine must have."""
    _demand(words, word, line)
    return words.index(word)


class Draft:
    """What the lines of a text have told so far."""

    def __init__(self, traffic):
        self.traffic = traffic
        self.last = ""
        self.names = []
        self.clocks = []
        self.channels = []
        self.states = []
        self.rules = []

    def take(self, line, parts):
        """Adds what a line tells, or raises the first of its errors."""
        if not _has_form(parts):
            raise Malformed(line)
        if not self.fits(parts[0]):
            raise Misplaced(line)
        if parts[0] == "hears":
            self.names = parts[1:]
        elif parts[0] == "clocks":
            self.clocks = parts[1:]
        elif parts[0] == "channel":
            self.add_channel(line, parts[1], parts[2:])
        elif parts[0] == "state":
            self.add_state(line, parts[1])
        else:
            self.add_rule(line, parts)
        self.last = parts[0]

    def fits(self, kind):
        """Tells whether a line of this kind may come next."""
        if kind == "channel" and self.traffic:
            return False
        if kind == "ban" and not self.traffic:
            return False
        return self.last in BEFORE[kind]

    def add_channel(self, line, name, signals):
        if name in self.channel_names():
            raise Repeated(line, name)
        if len(self.channels) == MOST_CHANNELS:
            raise TooMany(line)
        self.channels.append((name, tuple(signals)))

    def add_state(self, line, state):
        if state in self.states:
            raise Repeated(line, state)
        if len(self.states) == MOST_STATES:
            raise TooMany(line)
        self.states.append(state)

    def add_rule(self, line, parts):
        rule = self.rule_of(line, parts)
        if len(self.rules) == MOST_RULES:
            raise TooMany(line)
        self.rules.append(rule)

    def rule_of(self, line, parts):
        """Returns the tuple of a rule or a ban; looks its words up from left to right."""
        state = _place(self.states, parts[1], line)
        _demand(["tick", *self.names], parts[2], line)
        target, rest = None, parts[3:]
        if parts[0] == "rule":
            target, rest = _place(self.states, parts[3], line), parts[4:]
        conditions, resets, emits, _ = _clauses(rest)
        compared = [self.condition_of(line, clause) for clause in conditions]
        cleared = [_place(self.clocks, clause[1], line) for clause in resets]
        signals = [self.signal_of(line, clause) for clause in emits]
        return state, parts[2], target, tuple(compared), tuple(cleared), tuple(signals)

    def condition_of(self, line, clause):
        return _place(self.clocks, clause[1], line), clause[2], int(clause[3])

    def signal_of(self, line, clause):
        channel = _place(self.channel_names(), clause[1], line)
        _, signals = self.channels[channel]
        _demand(signals, clause[2], line)
        return channel, clause[2]

    def channel_names(self):
        return [name for name, _ in self.channels]
