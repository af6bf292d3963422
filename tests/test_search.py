"""The search for the first harmful delivery (points 20 and 21, and the document's example)."""

import inspect
import random
import unittest

import brute
from examples import LAMP, TURNS, case_of, chosen_case, delays, echo_case, lamp_case, read_events, row_of
from examples import turning_case, waiting_case
from latecoming import search
from latecoming.cases import Case, Delays
from latecoming.deliveries import first_scene, is_complete, is_delivery, is_harmful, possible_events, scene_after
from latecoming.deliveries import sequences
from latecoming.errors import TooLarge
from latecoming.machines import Machine, run
from latecoming.search import first_harm, kept_scenes
from latecoming.texts import parse_machine

FREE = "hears a b\nstate s"


def two_rows_case(names):
    """Returns a case in which either seven a, or six b are sent, and the sixth b shows."""
    states, rules = "\nstate x", "\nrule x a a1\nrule x b b1\nban x tick"
    for name, other, many in (("a", "b", 7), ("b", "a", 6)):
        for at in range(1, many + 1):
            states += f"\nstate {name}{at}"
            rules += f"\nrule {name}{at} {name} {name}{at + 1}" if at < many else f"\nban {name}{at} {name}"
            rules += f"\nban {name}{at} tick\nban {name}{at} {other}"
    program = f"hears {names}\nchannel c x" + "".join(f"\nstate s{at}" for at in range(7))
    program += "".join(f"\nrule s{at} b s{at + 1}" for at in range(5)) + "\nrule s5 b s6 emit c x"
    return case_of(program, f"hears {names}{states}{rules}", "ordered")


class SearchCase(unittest.TestCase):
    def assert_finds(self, case, late, text):
        """The search ends with this delivery, which is a complete and harmful one."""
        events = read_events(text)
        self.assertEqual(first_harm(case, late), events)
        self.assert_is_harmful(case, late, events)
        last = kept_scenes(case, late)[-1]
        self.assertTrue(is_complete(last) and is_harmful(case, last))

    def assert_is_harmful(self, case, late, events):
        self.assertTrue(is_delivery(case, late, events))
        history = brute.History(case, late, events)
        self.assertTrue(history.is_complete())
        self.assertTrue(history.is_harmful())

    def assert_finds_none(self, case, late):
        """The search ends with None, and what it kept is closed under what is possible."""
        self.assertIsNone(first_harm(case, late))
        scenes = kept_scenes(case, late)
        self.assertEqual(scenes[0], first_scene(case))
        self.assertEqual(len(set(scenes)), len(scenes))
        known = set(scenes)
        for scene in scenes:
            self.assertFalse(is_complete(scene) and is_harmful(case, scene))
            for event in possible_events(case, late, scene):
                self.assertIn(scene_after(case, late, scene, event), known)

    def assert_too_large(self, case, late):
        with self.assertRaises(TooLarge):
            first_harm(case, late)
        with self.assertRaises(TooLarge):
            kept_scenes(case, late)


class ExampleTest(SearchCase):
    def test_the_example_of_the_document(self):
        case = Case(parse_machine(LAMP), ["ordered"], parse_machine(TURNS, traffic=True))
        self.assertIs(first_harm(case, Delays(["on", "off"], [0, 0])), None)
        expected = [
            ("sent", "on", "once"),
            ("sent", "off", "once"),
            ("came", "off", 0),
            ("came", "on", 0),
            ("stopped",),
        ]
        found = first_harm(case, Delays(["on", "off"], [1, 1]))
        self.assertEqual(found, expected)
        self.assertIs(found.__class__, list)
        self.assert_finds_none(case, Delays(["on", "off"], [0, 0]))

    def test_what_it_keeps(self):
        scenes = kept_scenes(lamp_case(), Delays(["on", "off"], [0, 0]))
        empty = (((), ()),)
        lit, dark = (1, ()), (0, ())
        expected = [
            (dark, (), dark, dark, empty),
            (None, (), dark, dark, empty),
            (lit, (), lit, lit, empty),
            (None, (), lit, lit, empty),
        ]
        self.assertEqual(scenes, expected)
        self.assertIs(scenes.__class__, list)

    def test_what_it_keeps_with_the_harmful_one_at_the_end(self):
        late = Delays(["on", "off"], [1, 1])
        scenes = kept_scenes(lamp_case(), late)
        histories, is_harm = brute.search(lamp_case(), late)
        self.assertTrue(is_harm)
        self.assertEqual(scenes, [history.scene() for history in histories])
        # What was sent has left the lamp dark, what was received has left it lit.
        self.assertEqual(scenes[-1], (None, (), (0, ()), (1, ()), ((("dark",), ()),)))

    def test_lists_and_tuples(self):
        for made in (list, tuple):
            case = Case(parse_machine(LAMP), made(["ordered"]), parse_machine(TURNS, traffic=True))
            late = Delays(made(["on", "off"]), made([1, 1]), made([]), made([]))
            self.assertEqual(len(first_harm(case, late)), 5)


class FirstHarmTest(SearchCase):
    def test_the_empty_delivery_is_not_complete(self):
        case = case_of("hears a b\nchannel c x\nstate s", FREE, "ordered")
        self.assert_finds_none(case, delays([0, 0]))
        self.assertEqual(len(kept_scenes(case, delays([0, 0]))), 2)

    def test_the_first_one_in_the_order_of_events(self):
        case = echo_case("\nban s tick")
        self.assert_finds(case, delays([0, 0], lost="ab", twice="ab"), "a lost, stop")
        self.assert_finds(case, delays([0, 0], lost="b", twice="ab"), "a twice, stop")
        self.assert_finds(case, delays([0, 0], lost="b"), "b lost, stop")
        self.assert_finds(case, delays([0, 0], twice="b"), "b twice, stop")
        self.assert_finds(case, delays([0, 1]), "b once, a once, b came 0, stop")
        self.assert_finds(case, delays([1, 0]), "a once, b once, a came 0, stop")
        once = echo_case("\nstate t\nrule s b t\nban s a\nban t a\nban t b\nban s tick")
        self.assert_finds(once, delays([1, 1], twice="b"), "b twice, b came 0, b came 0, stop")
        # A first b once and three more b twice are in transit before that.
        self.assert_too_large(case, delays([1, 1], twice="b"))

    def test_a_name_that_may_be_lost_and_come_twice(self):
        self.assert_finds(echo_case(), delays([0, 0], lost="a", twice="a"), "a lost, stop")
        # This one writes x only if it hears three a in a row, but two are all that is ever sent.
        program = "hears a b\nchannel c x\nstate s\nstate t\nstate u\nrule s a t\nrule t a u\nrule u a s emit c x"
        program += "\nrule s b s\nrule t b s\nrule u b s"
        traffic = "hears a b\nstate x\nstate y\nstate z\nrule x a y\nrule y a z\nban z a"
        case = case_of(program, traffic + "\nban x b\nban y b\nban z b", "ordered")
        self.assert_finds_none(case, delays([0, 0]))
        self.assert_finds_none(case, delays([0, 0], lost="a"))
        self.assert_finds(case, delays([0, 0], twice="a"), "a once, a twice, stop")
        self.assert_finds(case, delays([0, 0], lost="a", twice="a"), "a once, a twice, stop")
        late = delays([1, 0], lost="a", twice="a")
        self.assert_finds(case, late, "a once, a came 0, a twice, a came 0, a came 0, stop")

    def test_the_views(self):
        for late, texts in (
            (delays([1, 1]), ("a once, b once, b came 0, a came 0, stop", None, None)),
            (delays([1, 1], lost="b"), ("b lost, stop", "b lost, stop", None)),
        ):
            traffic = "\nstate t\nstate u\nrule s a t\nrule s b u\nrule t b u\nban t a\nban u a\nban u b"
            for view, text in zip(("ordered", "unordered", "ignored"), texts):
                case = echo_case(traffic, view)
                if text is None:
                    self.assert_finds_none(case, late)
                else:
                    self.assert_finds(case, late, text)

    def test_no_channels(self):
        case = case_of("hears a b\nstate s\nstate u\nrule s a u\nrule u b s", "hears a b\nstate s", quiet=60)
        self.assert_finds_none(case, delays([0, 0], lost="ab", twice="ab"))

    def test_lateness_9(self):
        # One a is sent at the beginning; the program writes x if it comes after so many ticks.
        program = "hears a\nclocks t\nchannel c x\nstate s\nrule s a s when t from {} emit c x"
        traffic = "hears a\nstate x\nstate y\nrule x a y\nban x tick\nban y a"
        for ticks in (1, 8):
            case = case_of(program.format(ticks), traffic, "ordered")
            self.assert_finds_none(case, Delays(["a"], [0]))
            self.assert_finds_none(case, Delays(["a"], [ticks]))
            late = Delays(["a"], [ticks + 1])
            self.assert_finds(case, late, "a once, stop, " + "tick, " * ticks + "a came 0")
            self.assert_finds(case, Delays(["a"], [9]), "a once, stop, " + "tick, " * ticks + f"a came {8 - ticks}")
        self.assert_finds_none(case_of(program.format(9), traffic, "ordered"), Delays(["a"], [9]))

    def test_ticks_that_traffic_forbids_until_it_stops(self):
        program = "hears a\nclocks t\nchannel c x\nstate s\nrule s a s when t from 1 emit c x"
        traffic = "hears a\nstate x\nstate y\nrule x a y\nban x tick\nban y a\nban y tick"
        case = case_of(program, traffic, "ordered")
        self.assert_finds(case, Delays(["a"], [2]), "a once, stop, tick, a came 0")
        self.assert_finds_none(case, Delays(["a"], [1]))

    def test_the_quiet_times_0_and_60(self):
        program = "hears a b\nclocks t\nchannel c x\nstate s\nstate u\nrule s a u reset t"
        program += "\nrule u tick s when t from 60 emit c x"
        traffic = "\nstate t\nrule s a t\nban s b\nban t a\nban t b\nban s tick\nban t tick"
        for quiet in (0, 59, 60):
            case = case_of(program, FREE + traffic, "ordered", quiet=quiet)
            if quiet < 60:
                self.assert_finds_none(case, delays([1, 0], lost="a"))
            else:
                self.assert_finds(case, delays([1, 0], lost="a"), "a lost, stop")

    def test_several_names_clocks_and_channels(self):
        program = "hears c a b\nclocks t u\nchannel k x y\nchannel l y\nchannel m w z\nstate s\nstate v"
        program += "\nrule s c v reset t emit m z\nrule v a s when t under 2 emit k x emit l y"
        program += "\nrule v a s emit k y\nrule s b s when u from 1 reset u emit m w"
        traffic = "hears c a b\nclocks t\nstate x\nstate y\nrule x c y reset t\nban x a\nban y c"
        traffic += "\nban y b\nrule y a x when t from 1\nban y a\nban x b\nban y tick when t from 2"
        views = ("ordered", "unordered", "ignored")
        for late in ([0, 0, 0], [1, 0, 0], [0, 1, 0], [0, 2, 9], [2, 1, 0]):
            case, given = case_of(program, traffic, *views), Delays(["c", "a", "b"], late)
            histories, is_harm = brute.search(case, given)
            self.assertEqual(kept_scenes(case, given), [history.scene() for history in histories])
            self.assertEqual(first_harm(case, given), histories[-1].events if is_harm else None)

    def test_the_same_answer_when_asked_again(self):
        for late in (delays([0, 0], lost="a"), delays([0, 0])):
            case = echo_case()
            found, scenes = first_harm(case, late), kept_scenes(case, late)
            kept = list(scenes)
            scenes.clear()
            self.assertEqual(kept_scenes(case, late), kept)
            if found is not None:
                events = list(found)
                found.clear()
                self.assertEqual(first_harm(case, late), events)
            self.assertEqual(kept_scenes(case, late), kept)


class InTransitTest(SearchCase):
    def test_6_messages_are_not_too_many(self):
        case = case_of("hears a\nstate s", row_of("a", 6))
        self.assert_finds_none(case, Delays(["a"], [1]))
        self.assertEqual(max(len(scene[1]) for scene in kept_scenes(case, Delays(["a"], [1]))), 6)

    def test_7_messages_are_too_many(self):
        self.assert_too_large(case_of("hears a\nstate s", row_of("a", 7)), Delays(["a"], [1]))

    def test_copies_count(self):
        case = case_of("hears a\nstate s", row_of("a", 3))
        self.assert_finds_none(case, Delays(["a"], [1], [], ["a"]))
        case = case_of("hears a\nstate s", row_of("a", 4))
        self.assert_finds_none(case, Delays(["a"], [1], ["a"], []))
        self.assert_too_large(case, Delays(["a"], [1], [], ["a"]))

    def test_what_comes_at_once_or_is_lost_does_not_count(self):
        case = case_of("hears a\nstate s", "hears a\nstate x")
        self.assert_finds_none(case, Delays(["a"], [0], ["a"], ["a"]))
        self.assert_too_large(case, Delays(["a"], [1]))

    def test_harm_before_the_seventh_message(self):
        self.assert_finds(echo_case("\nban s tick"), delays([1, 1]), "a once, b once, b came 0, a came 0, stop")
        self.assert_finds(echo_case(), delays([9, 9], lost="a"), "a lost, stop")

    def test_harm_behind_the_seventh_message(self):
        program = "hears a\nchannel c x" + "".join(f"\nstate s{at}" for at in range(9))
        program += "".join(f"\nrule s{at} a s{at + 1}" for at in range(7)) + "\nrule s7 a s8 emit c x"
        case = case_of(program, "hears a\nstate x\nban x tick", "ordered")
        self.assert_finds(case, Delays(["a"], [0], ["a"]), "a once, " * 7 + "a lost, stop")
        self.assert_too_large(case, Delays(["a"], [1], ["a"]))

    def test_of_equally_many_events_the_earlier_ones_decide(self):
        # Both the seventh a and the harm of a lost b come with the seventh event.
        late = {"a": 1, "b": 0}
        for names in ("a b", "b a"):
            case = two_rows_case(names)
            given = Delays(names.split(), [late[name] for name in names.split()], ["b"])
            histories, is_harm = brute.search(case, given)
            if names == "a b":
                self.assertIsNone(histories)
                self.assert_too_large(case, given)
            else:
                self.assertTrue(is_harm)
                self.assert_finds(case, given, "b once, " * 5 + "b lost, stop")


class KeptTest(SearchCase):
    def test_1000_deliveries_are_not_too_many(self):
        case = turning_case(10, 99)
        self.assertEqual(len(kept_scenes(case, Delays(["a"], [0]))), 1000)
        self.assert_finds_none(case, Delays(["a"], [0]))

    def test_1001_deliveries_are_too_many(self):
        self.assert_too_large(turning_case(7, 142), Delays(["a"], [0]))
        self.assert_too_large(turning_case(11, 120), Delays(["a"], [9], ["a"], ["a"]))

    def test_the_thousandth_delivery_may_be_harmful(self):
        for ticks in (1, 60, 995, 996):
            case, late = waiting_case(ticks), Delays(["a"], [0], ["a"])
            self.assert_finds(case, late, "tick, " * ticks + "a lost, stop")
            self.assertEqual(len(kept_scenes(case, late)), ticks + 4)

    def test_the_next_one_is_too_many_although_it_is_harmful(self):
        for ticks in (997, 998, 1020):
            self.assert_too_large(waiting_case(ticks), Delays(["a"], [0], ["a"]))

    def test_messages_in_transit_that_are_too_many_for_the_kept(self):
        # Six messages with nine waits can stand in thousands of ways.
        case = case_of("hears a\nstate s", row_of("a", 6))
        self.assert_too_large(case, Delays(["a"], [9]))

    def test_a_search_with_many_rules_ends_soon(self):
        names = ("a", "b", "c", "d")
        conditions = ((0, "under", 60), (1, "under", 60), (2, "from", 60))
        idle = tuple((0, "tick", 0, conditions, (), ()) for _ in range(195))
        resets = tuple((0, name, 0, (), (at % 3,), ((at % 3, "x"),)) for at, name in enumerate(names))
        many = ((0, "x"), (1, "x"), (2, "x"), (0, "y"))
        program_rules = idle + resets + ((0, "tick", 0, (), (), many),)
        channels = tuple((name, ("x", "y")) for name in "klm")
        program = Machine(names, ("t", "u", "v"), channels, ("s",), program_rules)
        traffic = Machine(names, ("t", "u", "v"), (), ("s",), idle + resets)
        case = Case(program, ["ignored"] * 3, traffic, 60)
        self.assert_too_large(case, Delays(names, [0] * 4, names, names))


class AgainstDefinitionsTest(SearchCase):
    def test_chosen_cases(self):
        chance = random.Random(20)
        ends = set()
        for _ in range(400):
            case, late = chosen_case(chance)
            ends.add(self.compare(case, late))
        self.assertEqual(ends, {"harm", "none", "large"})

    def compare(self, case, late):
        """Compares the search with one that begins each delivery from its first event."""
        try:
            found, scenes = first_harm(case, late), kept_scenes(case, late)
        except TooLarge:
            histories, _ = brute.search(case, late, most_kept=60)
            self.assertIsNone(histories)
            return "large"
        histories, is_harm = brute.search(case, late, most_kept=60)
        if histories is None:
            self.assertGreater(len(scenes), 60)
        else:
            self.assertEqual(scenes, [history.scene() for history in histories])
            self.assertEqual(found, histories[-1].events if is_harm else None)
        self.compare_short(case, late, found)
        return "none" if found is None else "harm"

    def compare_short(self, case, late, found):
        """Compares what was found with all deliveries of a few events."""
        shortest = brute.first_harmful(case, late, 3)
        if found is not None and len(found) <= 3:
            self.assertEqual(found, shortest)
        else:
            self.assertIsNone(shortest)
        if found is not None:
            self.assert_is_harmful(case, late, found)

    def test_harm_never_disappears(self):
        chance = random.Random(22)
        seen = 0
        for _ in range(600):
            case, late = chosen_case(chance)
            if self.has_harm(case, late) and not self.is_too_large(case, late):
                seen += 1
                more = [min(9, lateness + chance.randint(0, 2)) for lateness in late.late]
                lost = [name for name in late.names if name in late.lost or chance.random() < 0.2]
                twice = [name for name in late.names if name in late.twice or chance.random() < 0.2]
                self.assertTrue(self.has_harm(case, Delays(late.names, more, lost, twice)))
        self.assertGreater(seen, 50)

    def is_too_large(self, case, late):
        try:
            first_harm(case, late)
        except TooLarge:
            return True
        return False

    def has_harm(self, case, late):
        """Tells whether the search ends with a delivery, or does not come to an end."""
        return self.is_too_large(case, late) or first_harm(case, late) is not None

    def test_a_harmful_delivery_by_its_sequences(self):
        case, late = lamp_case(quiet=3), Delays(["on", "off"], [1, 1])
        sent, received = sequences(case, late, first_harm(case, late))
        self.assertEqual((sent, received), (["on", "off"], ["off", "on"]))
        quiet = ["tick"] * 3
        self.assertNotEqual(run(case.program, sent + quiet)[1], run(case.program, received + quiet)[1])


class InterfaceTest(unittest.TestCase):
    def test_names_and_arguments(self):
        for name in ("first_harm", "kept_scenes"):
            found = getattr(search, name)
            self.assertEqual(str(inspect.signature(found)), "(case, delays)")
            self.assertEqual(found.__module__, "latecoming.search")


if __name__ == "__main__":
    unittest.main()
