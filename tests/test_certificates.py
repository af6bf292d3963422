"""Certificates and their check (points 25 to 27)."""

import copy
import inspect
import random
import unittest

import brute
from examples import case_of, chosen_case, delays, echo_case, lamp_case, read_events, row_of, waiting_case
from latecoming import certificates
from latecoming.cases import Delays
from latecoming.certificates import accepts, certificate
from latecoming.deliveries import first_scene, is_complete, is_harmful, possible_events, scene_after
from latecoming.errors import TooLarge
from latecoming.search import first_harm, kept_scenes

# Clocks in the program and in the traffic, and a channel of each view.
RICH = (
    "hears a b\nclocks t u\nchannel k x y\nchannel l y z\nchannel m w\nstate s0\nstate s1"
    "\nrule s0 a s1 reset t emit m w\nrule s1 tick s1 when t from 3 reset u\nrule s1 b s0 when u under 2 emit m w"
)
SPARSE = "hears a b\nclocks v\nstate x\nstate y\nrule x a y reset v\nban y a\nban y b when v under 2\nrule y b x\nban x b"

# Deep enough to end any program that goes down to the bottom.
DEEP = 100000


def rich_case():
    return case_of(RICH, SPARSE, "ordered", "unordered", "ignored", quiet=1)


def rich_delays():
    return delays([2, 0], twice="b")


def nested(deep, inside=()):
    """Returns a list that contains a list that contains a list and so on."""
    for _ in range(deep):
        inside = [inside]
    return inside


def endless():
    """Returns a list that contains itself."""
    value = []
    value.append(value)
    return value


def listed(value):
    """Returns the value with lists in the place of its tuples."""
    return [listed(part) for part in value] if isinstance(value, (list, tuple)) else value


def tupled(value):
    """Returns the value with tuples in the place of its lists."""
    return tuple(tupled(part) for part in value) if isinstance(value, (list, tuple)) else value


def closed_scenes(case, late, *scenes, most=500):
    """Returns the first scene, these scenes, and all that follow; None if there are too many."""
    found = dict.fromkeys((first_scene(case), *scenes))
    left = list(found)
    while left:
        scene = left.pop()
        for event in possible_events(case, late, scene):
            after = scene_after(case, late, scene, event)
            if after not in found:
                found[after] = None
                left.append(after)
        if len(found) > most:
            return None
    return list(found)


def with_followers(case, late, scene):
    """Returns the first scene and this one, with all that follow, as far as this can be told; then this one again."""
    try:
        scenes = closed_scenes(case, late, tupled(scene))
    except (IndexError, RecursionError, TypeError, ValueError):
        scenes = None
    return [*(scenes or closed_scenes(case, late)), scene]


def history_of(case, late, events):
    """Returns the history of the events, or None if one of them is not possible."""
    history = brute.History(case, late)
    for event in events:
        if event not in history.events_in_order():
            return None
        history = brute.History(case, late, history.events + [event])
    return history


def is_proof(case, late, events):
    """Tells whether these are a complete and harmful delivery."""
    history = history_of(case, late, events)
    return history is not None and history.is_complete() and history.is_harmful()


def chosen_certificates(seed, many):
    """Returns cases, delays and their certificates, without those where the search is too large."""
    chance = random.Random(seed)
    found = []
    while len(found) < many:
        case, late = chosen_case(chance)
        try:
            found.append((case, late, *certificate(case, late)))
        except TooLarge:
            pass
    return found


class CertificateCase(unittest.TestCase):
    def assert_accepts(self, expected, case, late, *value):
        for given in (value, listed(value), tupled(value)):
            self.assertIs(accepts(case, late, given), expected, value)


class CertificateTest(CertificateCase):
    def test_a_delivery(self):
        case, late = lamp_case(), Delays(["on", "off"], [1, 1])
        text = "on once, off once, off came 0, on came 0, stop"
        self.assertEqual(certificate(case, late), ("delivery", read_events(text)))
        self.assert_accepts(True, case, late, *certificate(case, late))

    def test_scenes(self):
        case, late = lamp_case(), Delays(["on", "off"], [0, 0])
        found = certificate(case, late)
        same, on, off = (((), ()),), (1, ()), (0, ())
        scenes = [(off, (), off, off, same), (None, (), off, off, same), (on, (), on, on, same), (None, (), on, on, same)]
        self.assertEqual(found, ("scenes", scenes))
        self.assert_accepts(True, case, late, *found)

    def test_what_it_is_made_of(self):
        for late in ([0, 0], [1, 1]):
            found = certificate(lamp_case(), Delays(["on", "off"], late))
            self.assertIs(found.__class__, tuple)
            self.assertIs(found[1].__class__, list)
            self.assertEqual({part.__class__ for part in found[1]}, {tuple})

    def test_too_large(self):
        for case, late in (
            (case_of("hears a\nstate s", row_of("a", 7)), Delays(["a"], [1])),
            (waiting_case(997), Delays(["a"], [0], ["a"])),
        ):
            with self.assertRaises(TooLarge):
                certificate(case, late)

    def test_the_greatest_ones(self):
        case, late = waiting_case(996), Delays(["a"], [0], ["a"])
        self.assertEqual(len(certificate(case, late)[1]), 998)
        self.assert_accepts(True, case, late, *certificate(case, late))
        case, late = case_of("hears a\nstate s", row_of("a", 6)), Delays(["a"], [1])
        self.assert_accepts(True, case, late, *certificate(case, late))

    def test_without_channels_and_with_all_views(self):
        case, late = case_of("hears a b\nstate s", "hears a b\nstate x"), delays([0, 0], lost="ab", twice="ab")
        side = (0, ())
        self.assertEqual(certificate(case, late), ("scenes", [(side, (), side, side, ()), (None, (), side, side, ())]))
        self.assert_accepts(True, case, late, *certificate(case, late))
        kind, scenes = certificate(rich_case(), rich_delays())
        self.assertEqual(kind, "scenes")
        self.assert_accepts(True, rich_case(), rich_delays(), kind, scenes)

    def test_chosen_cases(self):
        kinds = []
        for case, late, kind, claimed in chosen_certificates(25, 150):
            kinds.append(kind)
            harm = first_harm(case, late)
            self.assertEqual((kind, claimed), ("scenes", kept_scenes(case, late)) if harm is None else ("delivery", harm))
            self.assert_accepts(True, case, late, kind, claimed)
        self.assertGreater(min(kinds.count("delivery"), kinds.count("scenes")), 30)

    def test_nothing_is_shared(self):
        for late in ([0, 0], [1, 1]):
            case, given = lamp_case(), Delays(["on", "off"], late)
            first = certificate(case, given)
            kept = copy.deepcopy(first)
            first[1].clear()
            self.assertEqual(certificate(case, given), kept)


class DeliveryTest(CertificateCase):
    def assert_delivery(self, expected, case, late, text):
        self.assert_accepts(expected, case, late, "delivery", read_events(text))

    def test_any_complete_and_harmful_delivery(self):
        late = delays([2, 1], lost="b")
        for text in (
            "b lost, stop", "tick, tick, b lost, stop", "b lost, b lost, b once, b came 0, stop",
            "a once, b lost, stop, tick, a came 0", "a once, b once, b came 0, a came 1, stop",
            "a once, b once, stop, b came 0, tick, a came 0",
        ):
            self.assert_delivery(True, echo_case(), late, text)

    def test_a_delivery_that_is_not_harmful(self):
        late = delays([2, 1], lost="b")
        for text in ("stop", "tick, stop", "a once, a came 1, stop", "a once, stop, tick, a came 0"):
            self.assert_delivery(False, echo_case(), late, text)
        self.assert_delivery(False, echo_case(view="unordered"), late, "a once, b once, b came 0, a came 1, stop")
        self.assert_delivery(False, echo_case(view="ignored"), late, "b lost, stop")
        self.assert_delivery(True, echo_case(view="unordered"), late, "b lost, stop")

    def test_a_delivery_that_is_not_complete(self):
        late = delays([2, 1], lost="b")
        for text in ("", "b lost", "b lost, tick", "b lost, a once, stop", "b lost, a once, stop, tick"):
            self.assert_delivery(False, echo_case(), late, text)

    def test_an_event_that_is_not_possible(self):
        late = delays([2, 1], lost="b")
        for text in (
            "a lost, stop", "b twice, b came 0, b came 0, stop", "b lost, stop, stop", "b lost, stop, tick",
            "b lost, stop, b once", "b lost, b came 0, stop", "a once, b lost, a came 0, stop", "stop, b lost, stop",
            "b lost, a once, tick, tick, stop", "b lost, a once, stop, tick, a came 0, tick", "c lost, stop",
        ):
            self.assert_delivery(False, echo_case(), late, text)
        self.assert_delivery(False, echo_case("\nban s b"), late, "b lost, stop")
        self.assert_delivery(False, echo_case("\nban s tick"), late, "tick, b lost, stop")
        self.assert_delivery(True, echo_case("\nban s tick"), late, "b lost, stop")

    def test_longer_than_any_search(self):
        late = delays([9, 9], twice="a")
        sent = ", ".join(["a twice, b once"] * 20)
        came = ", ".join(["b came 8"] * 20 + ["a came 8"] * 40)
        self.assert_delivery(True, echo_case(), late, f"{sent}, {came}, stop")
        self.assert_delivery(False, echo_case(), late, f"{sent}, {came}")
        self.assert_delivery(False, echo_case(), late, f"{sent}, {came}, a came 8, stop")
        late = delays([0, 0], lost="a")
        self.assert_delivery(True, echo_case(), late, "tick, " * 1500 + "a lost, stop")
        self.assert_delivery(False, echo_case(), late, "tick, " * 1500 + "a once, stop")

    def test_the_quiet_time(self):
        program = "hears a b\nchannel c x\nstate s\nstate u\nrule s a u\nrule u tick s emit c x"
        for quiet in (0, 1, 60):
            case = case_of(program, "hears a b\nstate x", "ordered", quiet=quiet)
            self.assert_delivery(quiet > 0, case, delays([0, 0], lost="a"), "a lost, stop")

    def test_one_event_changed_left_out_or_doubled(self):
        chance = random.Random(26)
        ends = []
        for case, late, kind, events in chosen_certificates(26, 100):
            if kind == "delivery":
                for changed in self.changed(chance, case, events):
                    ends.append(is_proof(case, late, changed))
                    self.assert_accepts(ends[-1], case, late, "delivery", changed)
        self.assertGreater(ends.count(True), 30)
        self.assertGreater(ends.count(False), 200)

    def changed(self, chance, case, events):
        names = case.program.names
        others = [("sent", name, fate) for name in names for fate in brute.FATES]
        others += [("stopped",), ("tick",)] + [("came", name, wait) for name in names for wait in range(3)]
        found = []
        for at in range(len(events)):
            other = chance.choice(others)
            found.append(events[:at] + events[at + 1:])
            found.append(events[:at + 1] + events[at:])
            found.append(events[:at] + [other] + events[at + 1:])
            found.append(events[:at] + [other] + events[at:])
        return found

    def test_the_search_returns_one_where_a_delivery_is_accepted(self):
        chance = random.Random(27)
        seen = 0
        for case, late, kind, _ in chosen_certificates(27, 100):
            for _ in range(4):
                if accepts(case, late, ("delivery", self.walk(chance, case, late))):
                    seen += 1
                    self.assertEqual(kind, "delivery")
        self.assertGreater(seen, 20)

    def walk(self, chance, case, late):
        """Returns a delivery, which in most cases is complete."""
        scene, events = first_scene(case), []
        for step in range(14):
            possible = possible_events(case, late, scene)
            if step > 4 and ("stopped",) in possible:
                possible = [("stopped",)]
            if possible == []:
                break
            events.append(chance.choice(possible))
            scene = scene_after(case, late, scene, events[-1])
        return events

    def test_values_that_are_no_events(self):
        case, late = echo_case(), delays([1, 2], lost="a")
        harm = read_events("a lost, stop")
        self.assert_accepts(True, case, late, "delivery", [["tick"], *harm])
        for event in (
            None, 0, True, "", "stopped", "tick", [], [[]], ["tick", None], ["tick", "a"], [["tick"]], ["Tick"], [0],
            ["sent"], ["sent", "a"], ["sent", "a", "lost", "lost"], ["sent", "c", "lost"], ["sent", 0, "lost"],
            ["sent", "a", None], ["sent", "a", ["lost"]], ["sent", "tick", "once"], ["sent", "a", "never"],
            ["came", "a", 0], ["came", "a", "0"], ["came", "a", -1], ["came", "a", None], ["came", "a", 10**5000],
            10**5000, nested(DEEP), [nested(DEEP)], ["sent", nested(DEEP), "lost"], ["came", "a", nested(DEEP)],
            ["tick"] * DEEP, endless(), ["sent", "a", endless()], {}, {"tick"}, 1.5, b"tick", object(), ["came", "a", 0.0],
        ):
            for events in ([event, *harm], (event, *harm), [harm[0], event, harm[1]], [event]):
                self.assertIs(accepts(case, late, ("delivery", events)), False)

    def test_true_and_false_are_no_waits(self):
        case, late = echo_case(), delays([1, 2], lost="a")
        sent = read_events("a lost, a once, b once")
        for first, second in ((0, 1), (False, 1), (0, True), (0.0, 1), (0, 1.0)):
            came = [("came", "a", first), ("came", "b", second), ("stopped",)]
            self.assertIs(accepts(case, late, ("delivery", sent + came)), {first.__class__, second.__class__} == {int})


class ValueTest(CertificateCase):
    def test_values_that_are_no_certificate(self):
        case = lamp_case()
        for late in ([0, 0], [1, 1]):
            given = Delays(["on", "off"], late)
            kind, claimed = certificate(case, given)
            other = {"scenes": "delivery", "delivery": "scenes"}[kind]
            for value in (
                None, 0, 1, True, False, "", kind, "ab", (), (kind,), (claimed,), claimed, (claimed, kind),
                (kind, claimed, None), (kind, claimed, claimed), ((kind, claimed),), (other, claimed), (None, claimed),
                (0, claimed), ([kind], claimed), (kind.upper(), claimed), (kind + "s", claimed), (kind, None), (kind, 0),
                (kind, True), (kind, ""), (kind, kind), (kind, "ab"), (kind, ()), (kind, [[]]), (kind, [None]),
                (kind, [claimed]), (kind, [*claimed, None]), (kind, [*claimed, ()]), (kind, -(10**5000)), 10**5000,
                {kind: claimed}, {kind, "b"}, {}, (kind, {}), (kind, {1: 2}), 1.5, (1.5, claimed), b"ab", object(),
                (kind, object()), (b"scenes", claimed), (b"delivery", claimed), (kind, float("nan")),
            ):
                self.assertIs(accepts(case, given, value), False)
                if isinstance(value, tuple):
                    self.assertIs(accepts(case, given, list(value)), False)

    def test_deep_values(self):
        case, late = lamp_case(), Delays(["on", "off"], [0, 0])
        deep = nested(DEEP)
        for value in (deep, endless()):
            for kind in ("scenes", "delivery"):
                for given in (value, (kind, value), (value, value), (value, kind), (kind, [value]), (kind, [value, value])):
                    self.assertIs(accepts(case, late, given), False)
                for parts in range(7):
                    self.assertIs(accepts(case, late, (kind, [[value] * parts])), False)

    def test_values_that_double_at_each_level(self):
        value = None
        for _ in range(200):
            value = [value, value]
        for kind in ("scenes", "delivery"):
            for given in (value, (kind, value), (kind, [value]), (kind, [[value] * 5])):
                self.assertIs(accepts(lamp_case(), Delays(["on", "off"], [0, 0]), given), False)

    def test_values_by_chance(self):
        chance = random.Random(29)
        case, late = rich_case(), rich_delays()
        _, scenes = certificate(case, late)
        for _ in range(800):
            value = self.by_chance(chance, listed(chance.choice(scenes)))
            self.assertIn(accepts(case, late, ("scenes", [*scenes, value])), (True, False))
            self.assertIn(accepts(case, late, ("delivery", [["sent", "a", "once"], value])), (True, False))
            self.assertIn(accepts(case, late, self.by_chance(chance, ["scenes", scenes])), (True, False))

    def by_chance(self, chance, value):
        """Returns the value, with another one in the place of a part of it."""
        if isinstance(value, list) and value and chance.random() < 0.8:
            at = chance.randrange(len(value))
            return value[:at] + [self.by_chance(chance, value[at])] + value[at + 1:]
        others = (None, 0, 1, 2, -1, 61, True, "", "x", "y", "w", "tick", [], [[]], [0], [0, 0], ["x"], [["x"], ["x"]])
        return chance.choice(others)

    def test_the_value_is_not_modified(self):
        for late in ([0, 0], [1, 1]):
            case, given = lamp_case(), Delays(["on", "off"], late)
            value = listed(certificate(case, given))
            before = copy.deepcopy((value, vars(case), vars(given)))
            accepts(case, given, value)
            self.assertEqual((value, vars(case), vars(given)), before)


class ScenesTest(CertificateCase):
    def test_more_scenes_or_another_order(self):
        case, late = rich_case(), rich_delays()
        _, scenes = certificate(case, late)
        self.assert_accepts(True, case, late, "scenes", scenes + scenes)
        self.assert_accepts(True, case, late, "scenes", scenes[:1] + scenes[:0:-1])
        side = (1, (3, 1))
        more = closed_scenes(case, late, (None, ((0, 0), (0, 1)), side, side, (((), ()), ((), ()), ((), ()))))
        self.assertGreater(len(more), len(scenes))
        self.assert_accepts(True, case, late, "scenes", more)

    def test_the_first_scene_is_that_of_the_empty_delivery(self):
        case, late = rich_case(), rich_delays()
        _, scenes = certificate(case, late)
        self.assert_accepts(False, case, late, "scenes", scenes[::-1])
        for at, scene in enumerate(scenes):
            self.assert_accepts(at == 0, case, late, "scenes", [scene, *scenes])
            self.assert_accepts(at == 0, case, late, "scenes", [scene, *closed_scenes(case, late, scene)[1:]])

    def test_the_empty_list(self):
        for given in ([0, 0], [1, 1]):
            self.assert_accepts(False, lamp_case(), Delays(["on", "off"], given), "scenes", [])

    def test_one_scene_left_out(self):
        for case, late in (
            (rich_case(), rich_delays()),
            (lamp_case(), Delays(["on", "off"], [0, 0])),
            (case_of("hears a\nstate s", row_of("a", 2)), Delays(["a"], [3], ["a"], ["a"])),
        ):
            kind, scenes = certificate(case, late)
            self.assertEqual(kind, "scenes")
            for at in range(len(scenes)):
                self.assert_accepts(False, case, late, "scenes", scenes[:at] + scenes[at + 1:])

    def test_one_scene_changed(self):
        chance = random.Random(30)
        ends = []
        for case, late, kind, scenes in chosen_certificates(30, 150):
            at = chance.randrange(len(scenes)) if kind == "scenes" else 0
            if at > 0:
                # What is left out is missing, whatever stands in its place.
                other = list(scenes[at])
                part = chance.randrange(5)
                other[part] = chance.choice(scenes)[part]
                ends.append(tuple(other) == scenes[at])
                self.assert_accepts(ends[-1], case, late, "scenes", [*scenes[:at], tuple(other), *scenes[at + 1:]])
        self.assertGreater(ends.count(True), 10)
        self.assertGreater(ends.count(False), 10)

    def test_a_scene_that_is_complete_and_harmful(self):
        case, late = echo_case("\nban s a\nban s b"), delays([1, 1])
        _, scenes = certificate(case, late)
        start = (0, ())
        for pair in (((), ()), (("x",), ()), ((), ("y",)), (("x", "y"), ("y",))):
            scene = (None, (), start, start, (pair,))
            self.assert_accepts(pair == ((), ()), case, late, "scenes", [*scenes, scene])
            self.assert_accepts(True, echo_case("\nban s a\nban s b", "ignored"), late, "scenes", scenes)

    def test_a_scene_from_which_a_harmful_one_follows(self):
        case, late = echo_case("\nban s a\nban s b"), delays([1, 1])
        start = (0, ())
        for transit in (((0, 0),), ((0, 0), (1, 0)), ((1, 0),)):
            for sent in ((), ("x",), ("y",), ("x", "y"), ("y", "x")):
                scene = (None, transit, start, start, ((sent, ()),))
                scenes = closed_scenes(case, late, scene)
                expected = (transit, sent) in ((((0, 0),), ("x",)), (((1, 0),), ("y",)))
                self.assert_accepts(expected, case, late, "scenes", scenes)

    def test_a_scene_that_is_harmful_after_the_quiet_time(self):
        program = "hears a b\nchannel c x\nstate s\nstate u\nrule u tick s emit c x"
        for quiet in (0, 1, 60):
            case = case_of(program, "hears a b\nstate x\nban x a\nban x b", "ordered", quiet=quiet)
            _, scenes = certificate(case, delays([0, 0]))
            for states in ((0, 0), (1, 1), (1, 0), (0, 1)):
                scene = (None, (), (states[0], ()), (states[1], ()), (((), ()),))
                expected = quiet == 0 or states[0] == states[1]
                self.assert_accepts(expected, case, delays([0, 0]), "scenes", [*scenes, scene])
            for pair, expected in ((((), ("x",)), quiet > 0), ((("x",), ()), False)):
                scene = (None, (), (1, ()), (0, ()), (pair,))
                self.assert_accepts(expected, case, delays([0, 0]), "scenes", [*scenes, scene])

    def test_of_somebody_else_where_the_search_is_too_large(self):
        case, late = case_of("hears a\nstate s", row_of("a", 8)), Delays(["a"], [2])
        with self.assertRaises(TooLarge):
            certificate(case, late)
        scenes = closed_scenes(case, late)
        self.assertGreater(max(len(scene[1]) for scene in scenes), 6)
        self.assert_accepts(True, case, late, "scenes", scenes)
        self.assert_accepts(False, case, late, "scenes", scenes[:-1])

    def test_none_are_accepted_if_a_delivery_is_harmful(self):
        for case, late, kind, events in chosen_certificates(28, 120):
            if kind == "delivery":
                kept = kept_scenes(case, late)
                self.assert_accepts(False, case, late, "scenes", kept)
                self.assert_accepts(False, case, late, "scenes", kept[:-1])
                self.assert_accepts(False, case, late, "scenes", events)

    def test_all_scenes_that_follow_with_and_without_the_harmful_ones(self):
        once = "\nstate t\nstate u\nrule s a t\nrule t b u\nban s b\nban t a\nban u a\nban u b"
        for late in (
            delays([0, 0]), delays([1, 0]), delays([3, 3]), delays([0, 2], lost="a"), delays([0, 0], twice="b"),
            delays([1, 1], lost="ab", twice="ab"), delays([0, 4]),
        ):
            case = echo_case(once)
            scenes = closed_scenes(case, late)
            harmless = [scene for scene in scenes if not (is_complete(scene) and is_harmful(case, scene))]
            is_free = first_harm(case, late) is None
            self.assertEqual(len(harmless) == len(scenes), is_free)
            self.assert_accepts(is_free, case, late, "scenes", scenes)
            self.assert_accepts(is_free, case, late, "scenes", harmless)


class WrongPartsTest(CertificateCase):
    """Lists with one scene too many, from which nothing follows, and in which only its parts can be wrong."""

    SIDE = (1, (3, 2))
    SAME = (((), ()), ((), ()), ((), ()))

    def setUp(self):
        self.case, self.late = rich_case(), rich_delays()
        self.scenes = certificate(self.case, self.late)[1]

    def assert_more(self, expected, *scene):
        self.assertIs(accepts(self.case, self.late, ("scenes", [*self.scenes, scene])), expected)
        self.assertIs(accepts(self.case, self.late, ("scenes", (*self.scenes, list(scene)))), expected)
        self.assertIs(accepts(self.case, self.late, ("scenes", [scene])), False)

    def test_right_ones(self):
        for side in ((1, (3, 2)), (0, (0, 0)), (0, (3, 2)), (1, (0, 1)), [1, [3, 2]]):
            self.assert_more(True, None, (), side, side, self.SAME)
        self.assert_more(True, None, [], self.SIDE, self.SIDE, [[[], []], ((), []), [(), ()]])

    def test_the_number_of_parts(self):
        self.assert_more(False)
        self.assert_more(False, None)
        self.assert_more(False, None, (), self.SIDE, self.SIDE)
        self.assert_more(False, None, (), self.SIDE, self.SIDE, self.SAME, ())
        self.assert_more(False, None, (), self.SIDE, self.SIDE, self.SAME, None)
        self.assert_more(False, (), self.SIDE, self.SIDE, self.SAME, None)

    def test_no_scene_at_all(self):
        for wrong in (None, 0, True, "", "scene", 10**5000, nested(DEEP), endless(), {}, 1.5, object(), b"scene"):
            self.assertIs(accepts(self.case, self.late, ("scenes", [*self.scenes, wrong])), False)
            self.assertIs(accepts(self.case, self.late, ("scenes", [wrong, *self.scenes])), False)

    def wrong_configurations(self, states, caps):
        """Returns values that are no configurations of a machine with so many states and these caps."""
        state, clocks = states - 1, list(caps)
        wrong = [
            0, True, "", "ab", (), (state,), (state, clocks, 0), (clocks, state), {}, 1.5, nested(DEEP), endless(),
            (state, len(clocks)), (state, None), (state, ""), (state, "ab"), (state, {}), (state, clocks[1:]),
            (state, [*clocks, 0]), (state, nested(DEEP)), (state, [clocks]), (state, dict.fromkeys(clocks)),
        ]
        for other in (-1, states, "s0", None, True, False, 1.0, 10**5000, -(10**5000), nested(DEEP), [state], {}):
            wrong.append((other, clocks))
        for at, cap in enumerate(clocks):
            for other in (-1, cap + 1, 61, None, True, False, 0.0, "0", [cap], 10**5000, nested(DEEP), endless(), {}):
                wrong.append((state, clocks[:at] + [other] + clocks[at + 1:]))
        return wrong

    def test_the_sides(self):
        self.assert_more(False, None, (), None, None, self.SAME)
        for side in self.wrong_configurations(2, (3, 2)):
            self.assert_more(False, None, (), side, side, self.SAME)
            self.assert_more(False, None, (), self.SIDE, side, self.SAME)
            self.assert_more(False, None, (), side, self.SIDE, self.SAME)

    def test_the_sender(self):
        for sender in ((1, (0,)), (0, (2,)), (1, (2,)), [1, [1]]):
            self.assert_with_followers(True, sender, ())
        for sender in self.wrong_configurations(2, (2,)):
            self.assert_with_followers(False, sender, ())

    def assert_with_followers(self, expected, sender, transit):
        scenes = with_followers(self.case, self.late, (sender, transit, self.SIDE, self.SIDE, self.SAME))
        self.assertIs(accepts(self.case, self.late, ("scenes", scenes)), expected)

    def test_messages_in_transit(self):
        for transit in ((), ((0, 0),), ((0, 1),), ((0, 0), (0, 0)), ((0, 0), (0, 1)), [[0, 1], (0, 1)]):
            self.assert_with_followers(True, None, transit)
        for transit in (
            None, 0, "", "ab", {}, nested(DEEP), endless(), (0, 1), (None,), ("ab",), ((),), ((0,),), ((0, 1, 0),),
            ((0, 2),), ((0, -1),), ((0, 8),), ((1, 0),), ((1, -1),), ((2, 0),), ((-1, 0),), ((-2, 1),), ((0, 1), (0, 0)),
            ((0, 0), (0, 1), (0, 0)), ((0, 0), (1, 0)), (("a", 1),), ((0, None),), ((None, 0),), ((0, "1"),), ((0, True),),
            ((0, False),), ((False, 1),), ((0, 1.0),), ((0.0, 1),), ((0, (1,)),), ((0, 10**5000),), ((10**5000, 0),),
            ((0, nested(DEEP)),), ((nested(DEEP), 0),), (nested(DEEP),), ((0, 0), nested(DEEP)), ((0, 0), None), {(0, 1)},
        ):
            self.assert_with_followers(False, None, transit)

    def test_waits_of_each_lateness(self):
        case = case_of("hears b a c\nstate s", "hears b a c\nstate x\nban x b\nban x a\nban x c")
        late = Delays(["b", "a", "c"], [3, 0, 1])
        start = (0, ())
        for index in range(-1, 4):
            for wait in range(-2, 10):
                scenes = with_followers(case, late, (None, ((index, wait),), start, start, ()))
                self.assert_accepts((index, wait) in ((0, 0), (0, 1), (0, 2), (2, 0)), case, late, "scenes", scenes)

    def test_the_differences(self):
        for wrong in (
            None, 0, "", "abc", (), ((), (), ()), self.SAME[1:], (*self.SAME, ((), ())), (((), ()), ((), ()), ()), {},
            (None, ((), ()), ((), ())), (((), ()), ((), ()), ((), (), ())), (((), ()), ((), None), ((), ())),
            (((), ()), ((), ()), ("", "")), (((), ()), (0, 0), ((), ())), (((), ()), "ab", ((), ())), nested(DEEP),
            (nested(DEEP), ((), ()), ((), ())), (((), ()), ((), nested(DEEP)), ((), ())), endless(), [endless()] * 3,
        ):
            self.assert_more(False, None, (), self.SIDE, self.SIDE, wrong)


class DifferencesTest(CertificateCase):
    """Lists with one scene too many, in which one side writes in the quiet time what it lacks."""

    def assert_pair(self, expected, view, pair, emits):
        program = "hears a b\nchannel c x y z\nstate s\nstate u\nrule u tick s"
        program += "".join(f" emit c {signal}" for signal in emits.split())
        case = case_of(program, "hears a b\nstate x\nban x a\nban x b", view, quiet=1)
        _, scenes = certificate(case, delays([0, 0]))
        for first, second, given in ((0, 1, pair), (1, 0, pair[::-1])):
            scene = (None, (), (first, ()), (second, ()), (given,))
            self.assertIs(accepts(case, delays([0, 0]), ("scenes", [*scenes, scene])), expected)
            self.assertIs(accepts(case, delays([0, 0]), ("scenes", listed([*scenes, scene]))), expected)

    def test_right_ones(self):
        self.assert_pair(True, "ordered", (("x",), ()), "x")
        self.assert_pair(True, "ordered", (("z", "x", "y", "x"), ()), "z x y x")
        self.assert_pair(True, "unordered", (("x",), ()), "x")
        self.assert_pair(True, "unordered", (("x", "y", "y", "z"), ()), "y z x y")
        self.assert_pair(True, "ignored", ((), ()), "x y")

    def test_what_does_not_look_the_same(self):
        self.assert_pair(False, "ordered", (("x",), ()), "y")
        self.assert_pair(False, "ordered", (("x",), ("y",)), "x y")
        self.assert_pair(False, "unordered", (("x", "x"), ()), "x")
        self.assert_pair(False, "unordered", (("x",), ("z",)), "x z")

    def test_a_first_signal_in_common(self):
        self.assert_pair(False, "ordered", (("x", "y"), ("x",)), "y")
        self.assert_pair(False, "ordered", (("x", "x"), ("x",)), "x")
        self.assert_pair(False, "ordered", (("z", "x", "y"), ("z", "x")), "y")

    def test_any_signal_in_common(self):
        self.assert_pair(False, "unordered", (("x", "y"), ("x",)), "y")
        self.assert_pair(False, "unordered", (("x", "y"), ("y",)), "x")
        self.assert_pair(False, "unordered", (("x", "x"), ("x",)), "x")

    def test_signals_out_of_order(self):
        self.assert_pair(True, "unordered", (("x", "z"), ()), "z x")
        self.assert_pair(False, "unordered", (("z", "x"), ()), "z x")
        self.assert_pair(False, "unordered", (("x", "y", "x"), ()), "x y x")
        self.assert_pair(True, "ordered", (("x", "y", "x"), ()), "x y x")

    def test_an_ignored_channel(self):
        for first in ("x", "y", "z"):
            self.assert_pair(False, "ignored", ((first,), ()), "x")
            self.assert_pair(False, "ignored", ((first,), ("x",)), "x")

    def test_signals_that_the_channel_does_not_have(self):
        for wrong in ("w", "a", "c", "", "xy", "X", None, 0, True, 10**5000, ("x",), (), 1.0, b"x"):
            for view in ("ordered", "unordered", "ignored"):
                self.assert_pair(False, view, ((wrong,), ()), "")
                self.assert_pair(False, view, (("x", wrong), ()), "x")
                self.assert_pair(False, view, (("x", wrong), (wrong,)), "x")

    def test_a_signal_of_another_channel(self):
        case, late = rich_case(), rich_delays()
        _, scenes = certificate(case, late)
        for at, signal in ((0, "z"), (0, "w"), (1, "x"), (1, "w"), (2, "w"), (2, "x")):
            pairs = [((), ()), ((), ()), ((), ())]
            pairs[at] = ((signal,), ())
            scene = (None, (), (0, (0, 0)), (0, (0, 0)), tuple(pairs))
            self.assert_accepts(False, case, late, "scenes", [*scenes, scene])

    def test_deep_signals(self):
        for view in ("ordered", "unordered", "ignored"):
            case = case_of("hears a b\nchannel c x\nstate s", "hears a b\nstate x\nban x a\nban x b", view)
            _, scenes = certificate(case, delays([0, 0]))
            for deep in (nested(DEEP), endless()):
                for pair in ((deep, ()), ((deep,), ()), (("x", deep), ()), ((), ("x", deep)), deep):
                    scene = (None, (), (0, ()), (0, ()), (pair,))
                    self.assertIs(accepts(case, delays([0, 0]), ("scenes", [*scenes, scene])), False)


class InterfaceTest(unittest.TestCase):
    def test_names_and_arguments(self):
        expected = {"certificate": "(case, delays)", "accepts": "(case, delays, value)"}
        for name, arguments in expected.items():
            found = getattr(certificates, name)
            self.assertEqual(str(inspect.signature(found)), arguments)
            self.assertEqual(found.__module__, "latecoming.certificates")


if __name__ == "__main__":
    unittest.main()
