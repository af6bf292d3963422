"""Deliveries: their events, sequences and scenes (points 15 to 19)."""

import copy
import inspect
import random
import unittest

import brute
from examples import case_of, chosen_case, delays, echo_case, lamp_case, read_events
from latecoming import deliveries
from latecoming.cases import Delays
from latecoming.deliveries import (
    first_scene,
    is_complete,
    is_delivery,
    is_harmful,
    possible_events,
    scene_after,
    sequences,
)

# Several names, clocks and channels: after b the program counts the ticks until the next a.
BUSY = (
    "hears b a c\nclocks t u\nchannel k x y\nchannel l y z\nchannel m w\nstate s0\nstate s1"
    "\nrule s0 b s1 reset t emit k y emit l y\nrule s1 tick s1 when t from 3 reset t emit m w"
    "\nrule s1 a s0 when t under 2 emit k x emit l z emit k y\nrule s0 a s0 reset u emit l z"
    "\nrule s0 c s1 when u from 4 emit m w"
)
# One b, then neither b nor tick until an a; no c within two ticks.
STRICT = (
    "hears b a c\nclocks t\nstate x\nstate y\nrule x b y\nrule y a x\nban y b\nban y tick"
    "\nban x c when t under 2\nrule x c x reset t"
)


def scene_of(case, late, text):
    """Returns the scene to which the events of a text lead."""
    scene = first_scene(case)
    for event in read_events(text):
        scene = scene_after(case, late, scene, event)
    return scene


def events_after(case, late, text):
    return possible_events(case, late, scene_of(case, late, text))


class FirstSceneTest(unittest.TestCase):
    def test_everything_is_at_its_start(self):
        case = case_of(BUSY, STRICT, "ordered", "unordered", "ignored")
        start = (0, (0, 0))
        self.assertEqual(first_scene(case), ((0, (0,)), (), start, start, (((), ()), ((), ()), ((), ()))))

    def test_without_clocks_and_channels(self):
        case = case_of("hears a\nstate s", "hears a\nstate x")
        self.assertEqual(first_scene(case), ((0, ()), (), (0, ()), (0, ()), ()))

    def test_its_parts_are_tuples(self):
        scene = first_scene(lamp_case())
        for part in (scene, *scene, *scene[4]):
            self.assertIs(part.__class__, tuple)


class PossibleEventsTest(unittest.TestCase):
    def assert_events(self, found, text):
        self.assertEqual(found, read_events(text))
        self.assertIs(found.__class__, list)

    def test_at_the_beginning(self):
        late = delays([0, 1])
        self.assert_events(events_after(echo_case(), late, ""), "stop, tick, a once, b once")

    def test_fates_in_their_order(self):
        late = delays([0, 1], lost="ab", twice="ab")
        text = "stop, tick, a once, a lost, a twice, b once, b lost, b twice"
        self.assert_events(events_after(echo_case(), late, ""), text)

    def test_a_fate_only_if_it_is_allowed_for_the_name(self):
        for late in ([0, 0], [1, 9]):
            found = events_after(echo_case(), delays(late, lost="a", twice="b"), "")
            self.assert_events(found, "stop, tick, a once, a lost, b once, b twice")
            found = events_after(echo_case(), delays(late, lost="b"), "")
            self.assert_events(found, "stop, tick, a once, b once, b lost")

    def test_what_comes_stands_first_by_name_and_wait(self):
        found = events_after(echo_case(), delays([3, 2]), "b once, a once, tick, b once, a once")
        text = "a came 1, a came 2, b came 0, b came 1, stop, a once, b once"
        self.assert_events(found, text)

    def test_the_order_of_the_names_is_that_of_the_case(self):
        case = case_of("hears b a\nstate s", "hears b a\nstate s")
        late = Delays(["b", "a"], [2, 2], ["b", "a"])
        found = events_after(case, late, "a once, b once")
        self.assert_events(found, "b came 1, a came 1, stop, tick, b once, b lost, a once, a lost")

    def test_equal_messages_give_one_event(self):
        found = events_after(echo_case(), delays([2, 2]), "a once, a once, a once")
        self.assert_events(found, "a came 1, stop, tick, a once, b once")

    def test_no_tick_while_a_message_has_to_come(self):
        late = delays([1, 3])
        self.assert_events(events_after(echo_case(), late, "a once"), "a came 0, stop, a once, b once")
        self.assert_events(events_after(echo_case(), late, "a once, b once, stop"), "a came 0, b came 2")
        self.assert_events(events_after(echo_case(), late, "b once, stop, tick"), "b came 1, tick")
        self.assert_events(events_after(echo_case(), late, "b once, stop, tick, tick"), "b came 0")

    def test_nothing_after_the_last_message(self):
        late = delays([1, 3], lost="ab", twice="ab")
        self.assert_events(events_after(echo_case(), late, "stop"), "")
        self.assert_events(events_after(echo_case(), late, "b twice, stop, tick, b came 1"), "b came 1, tick")
        self.assert_events(events_after(echo_case(), late, "b twice, stop, b came 2, b came 2"), "")

    def test_a_forbidden_name_and_a_forbidden_tick(self):
        late = delays([1, 1], lost="ab", twice="ab")
        self.assert_events(events_after(echo_case("\nban s a"), late, ""), "stop, tick, b once, b lost, b twice")
        self.assert_events(events_after(echo_case("\nban s tick"), delays([1, 1]), ""), "stop, a once, b once")
        both = "\nban s a\nban s b\nban s tick"
        self.assert_events(events_after(echo_case(both), late, ""), "stop")

    def test_a_rule_before_a_ban(self):
        found = events_after(echo_case("\nrule s a s\nban s a\nban s b\nrule s b s"), delays([1, 1]), "")
        self.assert_events(found, "stop, tick, a once")

    def test_a_stopped_sender_is_not_asked_about_ticks(self):
        late = delays([3, 3])
        case = echo_case("\nban s tick")
        self.assert_events(events_after(case, late, "a once"), "a came 2, stop, a once, b once")
        self.assert_events(events_after(case, late, "a once, stop"), "a came 2, tick")
        self.assert_events(events_after(case, late, "a once, stop, tick, tick"), "a came 0")

    def test_a_tick_is_forbidden_with_the_clocks_after_it(self):
        case = case_of("hears a b\nstate s", "hears a b\nclocks t\nstate x\nban x tick when t from 3")
        self.assert_events(events_after(case, delays([0, 0]), "tick"), "stop, tick, a once, b once")
        self.assert_events(events_after(case, delays([0, 0]), "tick, tick"), "stop, a once, b once")

    def test_traffic_hears_names_whatever_their_fate(self):
        for fate in ("once", "lost", "twice"):
            for late in (0, 2):
                given = Delays(["on", "off"], [late, 0], ["on"], ["on"])
                found = [event for event in events_after(lamp_case(), given, f"on {fate}") if event[0] == "sent"]
                self.assert_events(found, "off once")

    def test_lists_in_the_place_of_tuples(self):
        late = delays([3, 1])
        scene = [[0, []], [[0, 0], [0, 2], [1, 0]], [0, []], [0, []], [[[], []]]]
        before = copy.deepcopy(scene)
        self.assert_events(
            possible_events(echo_case(), late, scene), "a came 0, a came 2, b came 0, stop, a once, b once"
        )
        self.assertEqual(scene, before)


class SceneAfterTest(unittest.TestCase):
    def assert_transit(self, late, text, *messages):
        _, transit, _, _, _ = scene_of(echo_case(), late, text)
        self.assertEqual(transit, messages)

    def test_lateness_0_is_never_in_transit(self):
        late = delays([0, 0], lost="ab", twice="ab")
        for fate in ("once", "lost", "twice"):
            self.assert_transit(late, f"a {fate}, b {fate}")

    def test_lateness_n_waits_for_n_minus_1_ticks(self):
        for lateness in range(1, 10):
            self.assert_transit(delays([lateness, 0]), "a once", (0, lateness - 1))
            self.assert_transit(delays([0, lateness]), "b once" + ", tick" * (lateness - 1), (1, 0))

    def test_copies_by_their_fate(self):
        late = delays([2, 9], lost="a", twice="ab")
        self.assert_transit(late, "a lost")
        self.assert_transit(late, "a twice", (0, 1), (0, 1))
        self.assert_transit(late, "b twice, a once", (0, 1), (1, 8), (1, 8))

    def test_transit_is_in_ascending_order(self):
        late = delays([3, 2])
        self.assert_transit(late, "b once, a once, tick, a once, b once", (0, 1), (0, 2), (1, 0), (1, 1))

    def test_one_of_equal_messages_comes(self):
        late = delays([2, 2], twice="a")
        self.assert_transit(late, "a twice, a once, a came 1", (0, 1), (0, 1))
        self.assert_transit(late, "b once, a twice, tick, a once, a came 0", (0, 0), (0, 1), (1, 0))
        self.assert_transit(late, "b once, a twice, tick, a once, a came 1", (0, 0), (0, 0), (1, 0))
        self.assert_transit(late, "b once, a once, b came 1", (0, 1))

    def test_what_both_sides_have_heard(self):
        program = "hears a b\nclocks t\nstate s\nstate u\nrule s a u reset t\nrule u b s when t from 9"
        case = case_of(program, "hears a b\nstate x\nstate y\nrule x a y")
        late = delays([2, 0], lost="a")
        self.assertEqual(scene_of(case, late, "tick, a once"), ((1, ()), ((0, 1),), (1, (0,)), (0, (1,)), ()))
        self.assertEqual(scene_of(case, late, "a once, tick"), ((1, ()), ((0, 0),), (1, (1,)), (0, (1,)), ()))
        self.assertEqual(scene_of(case, late, "a once, tick, a came 0"), ((1, ()), (), (1, (1,)), (1, (0,)), ()))
        self.assertEqual(scene_of(case, late, "a lost, stop"), (None, (), (1, (0,)), (0, (0,)), ()))

    def test_the_sent_side_stands_first(self):
        late = delays([1, 0], lost="ab")
        start = (0, ())
        self.assertEqual(
            scene_of(echo_case(), late, "a once, b once, a lost"),
            (start, ((0, 0),), start, start, ((("x", "y", "x"), ("y",)),)),
        )
        self.assertEqual(
            scene_of(echo_case(view="unordered"), late, "b once, a once, b lost"),
            (start, ((0, 0),), start, start, ((("x", "y"), ()),)),
        )
        self.assertEqual(
            scene_of(echo_case(view="ignored"), late, "a once, b once, a lost"),
            (start, ((0, 0),), start, start, (((), ()),)),
        )

    def test_what_comes_at_once_is_heard_as_often_as_it_travels(self):
        late = delays([0, 0], lost="a", twice="b")
        _, _, _, _, differences = scene_of(echo_case(), late, "a lost, b twice, a once")
        self.assertEqual(differences, ((("x", "y", "x"), ("y", "y", "x")),))
        _, _, _, _, differences = scene_of(echo_case(), late, "a once, b twice, a once")
        self.assertEqual(differences, ((("x",), ("y", "x")),))

    def test_the_difference_of_each_channel(self):
        case = case_of(BUSY, "hears b a c\nstate x", "ordered", "unordered", "ignored")
        late = Delays(["b", "a", "c"], [2, 1, 1])
        scene = scene_of(case, late, "b once, a once, a came 0, b came 1")
        self.assertEqual(scene[4], ((("x", "y"), ()), ((), ()), ((), ())))

    def test_after_a_stop_ticks_are_heard_by_the_program_only(self):
        program = "hears a b\nclocks t\nchannel c x\nstate s\nrule s tick s when t from 2 emit c x"
        case = case_of(program, "hears a b\nclocks t\nstate x\nban x b when t from 9", "ordered")
        late = delays([9, 9])
        for at, events in enumerate(("a once", "a once, tick", "a once, tick, tick")):
            self.assertEqual(scene_of(case, late, events)[0], (0, (at,)))
        scene = scene_of(case, late, "a once, stop, tick, tick, tick")
        self.assertEqual(scene, (None, ((0, 5),), (0, (2,)), (0, (2,)), (((), ()),)))

    def test_a_stop_changes_nothing_else(self):
        before = scene_of(echo_case(), delays([2, 0]), "a once, b once, tick")
        after = scene_after(echo_case(), delays([2, 0]), before, ("stopped",))
        self.assertEqual(after, (None, *before[1:]))
        self.assertIsNotNone(before[0])

    def test_lists_in_the_place_of_tuples(self):
        late = delays([2, 2], lost="a")
        scene = scene_of(echo_case(), late, "a once, b once, a lost")
        listed = [list(scene[0]), [list(part) for part in scene[1]], list(scene[2]), list(scene[3])]
        listed.append([[list(part) for part in pair] for pair in scene[4]])
        before = copy.deepcopy(listed)
        for event in possible_events(echo_case(), late, scene):
            expected = scene_after(echo_case(), late, scene, event)
            self.assertEqual(scene_after(echo_case(), late, listed, list(event)), expected)
        self.assertEqual(listed, before)

    def test_a_scene_is_made_of_tuples(self):
        scene = scene_of(lamp_case(), Delays(["on", "off"], [2, 1]), "on once, off once")
        self.assertEqual(hash(scene), hash(copy.deepcopy(scene)))
        for part in (scene, *scene, *scene[1], *scene[4], *scene[4][0]):
            self.assertIs(part.__class__, tuple)


class IsDeliveryTest(unittest.TestCase):
    def assert_is(self, expected, late, text, case=None):
        events = read_events(text)
        for given in (events, tuple(events), [list(event) for event in events], tuple(map(list, events))):
            self.assertIs(is_delivery(case or echo_case(), late, given), expected)

    def test_ordinary_deliveries(self):
        late = delays([0, 2], lost="a", twice="b")
        for text in (
            "", "stop", "a once", "tick, tick, tick", "b once, b came 1, stop", "b once, tick, b came 0, tick, stop",
            "b twice, stop, b came 1, tick, b came 0", "a lost, a once, b once, stop, tick, b came 0",
        ):
            self.assert_is(True, late, text)

    def test_events_that_are_not_possible(self):
        late = delays([0, 2], lost="a", twice="b")
        for text in (
            "a came 0", "b came 1", "a once, a came 0", "b once, b came 0", "b once, b came 2",
            "b once, tick, b came 1", "b once, tick, tick", "b once, b came 1, b came 1", "b twice, a came 1",
            "b lost", "a twice", "stop, stop", "stop, tick", "stop, a once", "b once, stop, a lost",
            "b once, stop, tick, tick", "b once, stop, b came 1, tick", "c once", "tick once", "a never", "c came 0",
        ):
            self.assert_is(False, late, text)

    def test_a_delivery_need_not_be_complete(self):
        self.assert_is(True, delays([9, 9]), "a once, b once, tick, stop")

    def test_the_first_event_that_is_not_possible_decides(self):
        self.assert_is(False, delays([1, 1]), "tick, a came 0, a once")
        self.assert_is(False, delays([1, 1]), "a came 0, a once, a came 0, stop")

    def test_what_traffic_forbids(self):
        late = Delays(["on", "off"], [0, 0])
        self.assert_is(True, late, "on once, tick, off once, on once, stop", lamp_case())
        self.assert_is(False, late, "off once", lamp_case())
        self.assert_is(False, late, "on once, on once", lamp_case())
        self.assert_is(False, delays([0, 0]), "a once, tick", echo_case("\nban s tick"))

    def test_any_number_of_messages_may_be_in_transit(self):
        self.assert_is(True, delays([9, 9], twice="ab"), ", ".join(["a twice, b once"] * 40))

    def test_values_that_are_no_events(self):
        late = delays([2, 2])
        wrong = (
            None, 0, True, "", "tick", "stopped", (), ("",), ("ticks",), ("tick", 0), ("tick", None), ("stopped", "a"),
            ("sent",), ("sent", "a"), ("sent", "a", "once", 0), ("sent", 0, "once"), ("sent", None, "once"),
            ("sent", "a", None), ("sent", "a", 1), ("sent", ["a"], "once"), ("sent", "a", ("once",)), (("tick",),),
            ("came", "a"), ("came", "a", "1"), ("came", "a", None), ("came", "a", -1), ("came", "a", 10**400),
            ("came", 0, 1), ("came", "a", [1]), ("came", "a", 1, 1), {"tick": 1}, {"tick"}, [[]], [None],
        )
        for event in wrong:
            with self.subTest(repr(event)[:40]):
                self.assertIs(is_delivery(echo_case(), late, [("sent", "a", "once"), event]), False)

    def test_true_and_false_are_no_waits(self):
        late = delays([2, 1])
        sent = [("sent", "a", "once"), ("sent", "b", "once")]
        self.assertIs(is_delivery(echo_case(), late, [*sent, ("came", "a", 1), ("came", "b", 0)]), True)
        for event in (("came", "a", True), ("came", "b", False), ("came", "a", 1.0), ["came", "b", 0.0]):
            self.assertIs(is_delivery(echo_case(), late, [*sent, event]), False)

    def test_what_is_no_list_of_events(self):
        for events in (None, True, 0, "", "tick", {}, set()):
            self.assertIs(is_delivery(echo_case(), delays([1, 1]), events), False)

    def test_events_are_not_modified(self):
        events = [["sent", "a", "once"], ["came", "a", 0], ["stopped"]]
        is_delivery(echo_case(), delays([1, 1]), events)
        self.assertEqual(events, [["sent", "a", "once"], ["came", "a", 0], ["stopped"]])


class SequencesTest(unittest.TestCase):
    def assert_sequences(self, late, text, sent, received):
        events = read_events(text)
        for given in (events, tuple(events), [list(event) for event in events]):
            self.assertEqual(sequences(echo_case(), late, given), (sent.split(), received.split()))

    def test_the_empty_delivery(self):
        self.assert_sequences(delays([0, 9]), "", "", "")

    def test_what_comes_at_once(self):
        late = delays([0, 0], lost="a", twice="b")
        self.assert_sequences(late, "a once, tick, b once, stop", "a tick b", "a tick b")
        self.assert_sequences(late, "b twice, a lost, b once, stop", "b a b", "b b b")

    def test_what_comes_late(self):
        late = delays([2, 0], lost="a", twice="a")
        text = "a twice, b once, a came 1, tick, a lost, a came 0, stop"
        self.assert_sequences(late, text, "a b tick a", "b a tick a")

    def test_ticks_after_a_stop_stand_in_both(self):
        late = delays([9, 1])
        text = "a once, tick, b once, stop, b came 0, tick, tick, a came 5"
        self.assert_sequences(late, text, "a tick b tick tick", "tick b tick tick a")

    def test_a_delivery_that_is_not_complete(self):
        self.assert_sequences(delays([9, 9]), "a once, tick, b once", "a tick b", "tick")

    def test_the_pair_is_a_tuple_of_new_lists(self):
        events = read_events("a once, a came 0, stop")
        first = sequences(echo_case(), delays([1, 1]), events)
        self.assertIs(first.__class__, tuple)
        first[0].append("b")
        first[1].clear()
        self.assertEqual(sequences(echo_case(), delays([1, 1]), events), (["a"], ["a"]))
        self.assertEqual(events, read_events("a once, a came 0, stop"))


class IsCompleteTest(unittest.TestCase):
    def test_the_sender_has_stopped_and_nothing_is_in_transit(self):
        late = delays([2, 2])
        expected = {"": False, "stop": True, "a once, stop": False, "a once, a came 1": False}
        expected.update({"a once, a came 1, stop": True, "a once, b once, stop, a came 1": False})
        for text, complete in expected.items():
            scene = scene_of(echo_case(), late, text)
            self.assertIs(is_complete(scene), complete)
            self.assertIs(is_complete([scene[0], list(scene[1]), *scene[2:]]), complete)


class IsHarmfulTest(unittest.TestCase):
    # Writes x so many ticks after an a.
    SLOW = "hears a b\nclocks t\nchannel c x y\nstate s\nstate u\nrule s a u reset t"
    SLOW += "\nrule u tick s when t from {} emit c x"

    def assert_harm(self, expected, case, late, text):
        scene = scene_of(case, late, text)
        self.assertTrue(is_complete(scene))
        self.assertIs(is_harmful(case, scene), expected)

    def test_a_difference_at_the_end(self):
        late = delays([1, 1], lost="a", twice="a")
        for view, expected in (("ordered", True), ("unordered", False), ("ignored", False)):
            self.assert_harm(expected, echo_case(view=view), late, "a once, b once, b came 0, a came 0, stop")
            self.assert_harm(False, echo_case(view=view), late, "a once, b once, a came 0, b came 0, stop")
            self.assert_harm(False, echo_case(view=view), late, "stop")
        for view, expected in (("ordered", True), ("unordered", True), ("ignored", False)):
            self.assert_harm(expected, echo_case(view=view), late, "a lost, stop")
            self.assert_harm(expected, echo_case(view=view), late, "a twice, a came 0, a came 0, stop")

    def test_one_channel_of_several_is_enough(self):
        program = "hears a b\nchannel c x\nchannel d x\nchannel e x\nstate s\nrule s a s emit {} x"
        late = delays([1, 1], lost="a")
        for at, channel in enumerate("cde"):
            for view, expected in (("ordered", True), ("unordered", True), ("ignored", False)):
                views = ["ignored", "ignored", "ignored"]
                views[at] = view
                case = case_of(program.format(channel), "hears a b\nstate s", *views)
                self.assert_harm(expected, case, late, "a lost, stop")
                views = ["ordered", "ordered", "ordered"]
                views[at] = view
                case = case_of(program.format(channel), "hears a b\nstate s", *views)
                self.assert_harm(expected, case, late, "a lost, stop")

    def test_without_channels_nothing_is_harmful(self):
        case = case_of("hears a b\nstate s\nstate u\nrule s a u", "hears a b\nstate s", quiet=60)
        self.assert_harm(False, case, delays([1, 1], lost="a"), "a lost, stop")

    def test_the_quiet_time_shows_a_difference_of_configurations(self):
        late = delays([1, 1], lost="a")
        for limit in (1, 5, 59, 60):
            for quiet in (0, limit - 1, limit, 60):
                case = case_of(self.SLOW.format(limit), "hears a b\nstate s", "ordered", quiet=quiet)
                self.assert_harm(quiet >= limit, case, late, "a lost, stop")

    def test_the_quiet_time_may_make_up_for_a_difference(self):
        late = delays([3, 0])
        for quiet in (0, 1, 2, 5, 60):
            case = case_of(self.SLOW.format(5), "hears a b\nstate s", "ordered", quiet=quiet)
            text = "a once, tick, tick, a came 0, tick, tick, tick, stop"
            self.assert_harm(quiet < 2, case, late, text)

    def test_differences_that_the_quiet_time_adds_to(self):
        program = "hears a b\nchannel c x y\nstate s\nstate u\nrule s a u emit c x"
        program += "\nrule s b s emit c y\nrule u b u emit c y\nrule u tick u emit c y"
        text = "a once, b once, b came 0, a came 0, stop"
        for view, expected in (("ordered", True), ("unordered", False), ("ignored", False)):
            case = case_of(program, "hears a b\nstate s", view, quiet=60)
            self.assert_harm(expected, case, delays([1, 1]), text)

    def test_lists_in_the_place_of_tuples(self):
        case = echo_case(quiet=2)
        self.assertIs(is_harmful(case, [None, [], [0, []], [0, []], [[["x"], ["y"]]]]), True)
        self.assertIs(is_harmful(case, [None, [], [0, []], [0, []], [[[], []]]]), False)


class WalksTest(unittest.TestCase):
    def test_scenes_along_deliveries_are_those_of_their_sequences(self):
        chance = random.Random(19)
        for _ in range(300):
            case, late = chosen_case(chance)
            self.walk(chance, case, late)

    def walk(self, chance, case, late):
        history, scene = brute.History(case, late), first_scene(case)
        for _ in range(12):
            events = history.events_in_order()
            self.assertEqual(scene, history.scene())
            self.assertEqual(possible_events(case, late, scene), events)
            self.assertIs(is_complete(scene), history.is_complete())
            if history.is_complete():
                self.assertIs(is_harmful(case, scene), history.is_harmful())
            self.assertEqual(sequences(case, late, history.events), (history.sent, history.received))
            self.assertIs(is_delivery(case, late, history.events), True)
            if events == []:
                return
            event = chance.choice(events)
            scene = scene_after(case, late, scene, event)
            history = brute.History(case, late, history.events + [event])

    def test_arguments_are_not_modified(self):
        chance = random.Random(15)
        for _ in range(50):
            case, late = chosen_case(chance)
            before = copy.deepcopy((vars(case), vars(late)))
            scene = first_scene(case)
            for event in possible_events(case, late, scene):
                scene_after(case, late, scene, event)
                is_harmful(case, scene_after(case, late, scene, ("stopped",)))
                is_delivery(case, late, [event])
            self.assertEqual((vars(case), vars(late)), before)


class InterfaceTest(unittest.TestCase):
    def test_names_and_arguments(self):
        expected = {
            "first_scene": "(case)",
            "possible_events": "(case, delays, scene)",
            "scene_after": "(case, delays, scene, event)",
            "is_delivery": "(case, delays, events)",
            "sequences": "(case, delays, events)",
            "is_complete": "(scene)",
            "is_harmful": "(case, scene)",
        }
        for name, arguments in expected.items():
            found = getattr(deliveries, name)
            self.assertEqual(str(inspect.signature(found)), arguments)
            self.assertEqual(found.__module__, "latecoming.deliveries")


if __name__ == "__main__":
    unittest.main()
