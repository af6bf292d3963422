"""Certificates: a harmful delivery, or scenes that show that there is none."""

from latecoming.cases import difference, is_count, is_list
from latecoming.courses import Course
from latecoming.deliveries import Network, is_complete, with_tuples
from latecoming.search import Search


def certificate(case, delays):
    """Returns a certificate of what the search finds."""
    search = Search(Network(Course(case), delays))
    if search.ends_with_harm():
        return "delivery", search.deliveries[-1]
    return "scenes", search.scenes


def accepts(case, delays, value):
    """Tells whether the value is a certificate that holds, whoever made it."""
    if not _is_list_of(2, value):
        return False
    kind, claimed = value
    network = Network(Course(case), delays)
    if kind == "delivery":
        return _proves_harm(network, claimed)
    if kind == "scenes":
        return _proves_none(network, claimed)
    return False


def _proves_harm(network, events):
    """Tells whether the events are a complete and harmful delivery."""
    scene = network.scene_of(events)
    return scene is not None and is_complete(scene) and network.course.has_harm(scene)


def _proves_none(network, value):
    """Tells whether the value is a list of all scenes to which deliveries lead, and none is harmful."""
    # Only what has the form of scenes is compared or converted: other values may be too deep for that.
    if not is_list(value) or not all([_is_scene(network, scene) for scene in value]):
        return False
    scenes = with_tuples(value)
    if len(scenes) == 0 or scenes[0] != network.first_scene():
        return False
    known = set(scenes)
    for scene in scenes:
        if is_complete(scene) and network.course.has_harm(scene):
            return False
        for event in network.events_in(scene):
            if network.scene_after(scene, event) not in known:
                return False
    return True


def _is_scene(network, value):
    """Tells whether the parts of the value are those of a scene."""
    if not _is_list_of(5, value):
        return False
    sender, transit, sent_side, received_side, differences = value
    course = network.course
    return (
        (sender is None or _is_configuration(course.traffic, sender))
        and _is_transit(network.delays.late, transit)
        and _is_configuration(course.program, sent_side)
        and _is_configuration(course.program, received_side)
        and _are_differences(course.case, differences)
    )


def _is_configuration(steps, value):
    """Tells whether the value is a configuration of the machine that has these steps."""
    if not _is_list_of(2, value):
        return False
    state, clocks = value
    if not is_count(state, len(steps.machine.states) - 1) or not _is_list_of(len(steps.caps), clocks):
        return False
    return all([is_count(clock, cap) for clock, cap in zip(clocks, steps.caps)])


def _is_transit(late, value):
    """Tells whether these are messages in transit, in ascending order."""
    if not is_list(value) or not all([_is_message(late, message) for message in value]):
        return False
    messages = with_tuples(value)
    return list(messages) == sorted(messages)


def _is_message(late, value):
    if not _is_list_of(2, value):
        return False
    index, wait = value
    return is_count(index, len(late) - 1) and is_count(wait, late[index] - 1)


def _are_differences(case, value):
    """Tells whether the value has a difference for each channel."""
    channels = case.program.channels
    if not _is_list_of(len(channels), value):
        return False
    for view, (_, signals), pair in zip(case.views, channels, value):
        if not _is_difference(view, signals, pair):
            return False
    return True


def _is_difference(view, signals, value):
    if not _is_list_of(2, value):
        return False
    first, second = value
    if not _are_signals(signals, first) or not _are_signals(signals, second):
        return False
    # A difference is what is left of itself.
    return difference(view, signals, first, second) == (tuple(first), tuple(second))


def _are_signals(signals, value):
    return is_list(value) and all([signal in signals for signal in value])


def _is_list_of(many, value):
    return is_list(value) and len(value) == many
