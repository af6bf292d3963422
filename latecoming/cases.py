"""Cases: a program, its views and its traffic; delays; and when lists of signals look the same."""

from latecoming.errors import InvalidCase, InvalidDelays
from latecoming.machines import Machine, has_bans

VIEWS = ("ordered", "unordered", "ignored")
LONGEST_QUIET = 60
GREATEST_LATENESS = 9


class Case:
    """A program, the views of its channels, the traffic that it gets, and a quiet time."""

    def __init__(self, program, views, traffic, quiet=0):
        if not isinstance(program, Machine) or not isinstance(traffic, Machine):
            raise InvalidCase("the program and the traffic are machines")
        if has_bans(program) or len(traffic.channels) > 0:
            raise InvalidCase("only the traffic has bans, and only the program has channels")
        if program.names != traffic.names:
            raise InvalidCase("the program and the traffic hear the same names in the same order")
        if not _are_views(views, len(program.channels)):
            raise InvalidCase("there is one view for each channel: ordered, unordered or ignored")
        if not is_count(quiet, LONGEST_QUIET):
            raise InvalidCase(f"the quiet time is an integer from 0 to {LONGEST_QUIET}")
        self.program = program
        self.views = tuple(views)
        self.traffic = traffic
        self.quiet = quiet


class Delays:
    """How late the message of each name may come, and which may be lost or come twice."""

    def __init__(self, names, late, lost=(), twice=()):
        names = tuple(names)
        if not _is_lateness(late, len(names)):
            raise InvalidDelays(f"the lateness is an integer from 0 to {GREATEST_LATENESS} for each name")
        if not _are_chosen(lost, names) or not _are_chosen(twice, names):
            raise InvalidDelays("what may be lost or come twice is named once, in the order of the names")
        self.names = names
        self.late = tuple(late)
        self.lost = tuple(lost)
        self.twice = tuple(twice)


def looks_same(view, first, second):
    """Tells whether two lists of signals look the same."""
    if view == "ordered":
        return list(first) == list(second)
    if view == "unordered":
        return sorted(first) == sorted(second)
    return True


def difference(view, signals, first, second):
    """Returns a pair of what each of two lists of signals has and the other lacks, as the view sees it."""
    if view == "ordered":
        begin = _common_beginning(first, second)
        return tuple(first[begin:]), tuple(second[begin:])
    if view == "unordered":
        return _excess(signals, first, second), _excess(signals, second, first)
    return (), ()


def extended(view, signals, pair, first, second):
    """Returns the difference of two lists that had the difference `pair` and were continued."""
    # What both lists have in common does not count, so their difference can stand for them.
    had_first, had_second = pair
    return difference(view, signals, [*had_first, *first], [*had_second, *second])


def is_list(value):
    """Tells whether the value is a list or a tuple: each may be passed in the place of the other."""
    return isinstance(value, (list, tuple))


def is_count(value, greatest):
    """Tells whether the value is an integer from 0 to the greatest one."""
    return isinstance(value, int) and not isinstance(value, bool) and 0 <= value <= greatest


def _common_beginning(first, second):
    """Returns the length of the longest common prefix."""
    shorter = min(len(first), len(second))
    for at in range(shorter):
        if first[at] != second[at]:
            return at
    return shorter


def _excess(signals, first, second):
    """Returns the signals that the first list has more often, in the order of the channel."""
    excess = []
    for signal in signals:
        more = first.count(signal) - second.count(signal)
        excess.extend([signal] * max(0, more))
    return tuple(excess)


def _are_views(views, many):
    return is_list(views) and len(views) == many and all([view in VIEWS for view in views])


def _is_lateness(late, many):
    return is_list(late) and len(late) == many and all([is_count(wait, GREATEST_LATENESS) for wait in late])


def _are_chosen(chosen, names):
    """Tells whether these are different ones of the names, in their order."""
    return is_list(chosen) and list(chosen) == [name for name in names if name in chosen]
