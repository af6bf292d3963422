"""The greatest delays that are harmless."""

from latecoming.cases import Delays
from latecoming.courses import Course
from latecoming.deliveries import Network
from latecoming.search import Search


def greatest_lateness(case, bound, lost=(), twice=()):
    """Returns the harmless tuples of latenesses up to the bound that are not below another harmless one."""
    course = Course(case)
    names = course.names
    lates = _tuples_up_to(bound, len(names))
    # All searches are made, also where another one tells the answer: one of them may be too large.
    harmless = [late for late in lates if _is_harmless(course, Delays(names, late, lost, twice))]
    return [late for late in harmless if not any([_is_below(late, other) for other in harmless])]


def greatest_losses(case, late, twice=()):
    """Returns the harmless sets of names that may be lost and are in no other harmless one."""
    course = Course(case)
    names = course.names
    sets = _sets_of(names)
    return _greatest_sets([lost for lost in sets if _is_harmless(course, Delays(names, late, lost, twice))])


def greatest_doubles(case, late, lost=()):
    """Returns the harmless sets of names that may come twice and are in no other harmless one."""
    course = Course(case)
    names = course.names
    sets = _sets_of(names)
    return _greatest_sets([twice for twice in sets if _is_harmless(course, Delays(names, late, lost, twice))])


def _is_harmless(course, delays):
    return Search(Network(course, delays)).harmful_delivery() is None


def _tuples_up_to(bound, many):
    """Returns all tuples of so many integers from 0 to the bound, in ascending order."""
    found = [()]
    for _ in range(many):
        found = [(*begun, last) for begun in found for last in range(bound + 1)]
    return found


def _is_below(late, other):
    return late != other and all([wait <= more for wait, more in zip(late, other)])


def _sets_of(names):
    """Returns all sets of the names, as tuples in their order, in ascending order of the names' indexes."""
    found = [()]
    for index in range(len(names)):
        found = found + [(*chosen, index) for chosen in found]
    return [tuple([names[index] for index in chosen]) for chosen in sorted(found)]


def _greatest_sets(found):
    """Returns those of the sets that are not a proper subset of another one."""
    return [chosen for chosen in found if not any([_is_within(chosen, other) for other in found])]


def _is_within(chosen, other):
    return chosen != other and all([name in other for name in chosen])
