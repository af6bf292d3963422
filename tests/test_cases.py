"""Cases, delays and views (points 11 to 14)."""

import copy
import inspect
import itertools
import random
import unittest

import brute
from latecoming import cases
from latecoming.cases import Case, Delays, difference, extended, looks_same
from latecoming.errors import InvalidCase, InvalidDelays, LateError
from latecoming.machines import Machine
from latecoming.texts import parse_machine

LAMP = parse_machine(
    "hears on off\nchannel lamp lit dark\nchannel bell ding\nstate a\nrule a on a emit lamp lit emit bell ding"
)
MUTE = parse_machine("hears on off\nclocks t\nstate a")
THREE = parse_machine("hears on off\nchannel c x\nchannel d x\nchannel e x\nstate a")
TURNS = parse_machine("hears on off\nstate x\nstate y\nrule x on y\nban x off\nban y tick", traffic=True)
FREE = parse_machine("hears on off\nstate x", traffic=True)
VIEWS = ("ordered", "unordered", "ignored")

# What is of another kind than an integer, though some of it is equal to one.
NO_INTEGERS = (True, False, None, "", "0", "5", (), (0,), [], [0], {}, {0}, b"0", 0.0, 1.0, 1.5, 0j)
# What is of another kind than a list or a tuple, though it may be iterated over.
NO_LISTS = (None, True, False, 0, 1, "", "ab", "on", {}, {"on": 0}, set(), {"on"}, b"", range(0), iter(()))


class CaseTest(unittest.TestCase):
    def assert_invalid(self, *parts, **named):
        with self.assertRaises(InvalidCase) as caught:
            Case(*parts, **named)
        self.assertIs(caught.exception.__class__, InvalidCase)
        self.assertIsInstance(caught.exception, LateError)

    def test_the_attributes(self):
        case = Case(LAMP, ("ordered", "ignored"), TURNS, 7)
        self.assertEqual(case.program, LAMP)
        self.assertEqual(case.views, ("ordered", "ignored"))
        self.assertEqual(case.traffic, TURNS)
        self.assertEqual(case.quiet, 7)

    def test_the_quiet_time_is_0_if_nothing_else_is_said(self):
        self.assertEqual(Case(LAMP, ("ordered", "ordered"), TURNS).quiet, 0)

    def test_arguments_by_their_names(self):
        case = Case(quiet=3, traffic=TURNS, views=["ordered", "unordered"], program=LAMP)
        found = (case.program, case.views, case.traffic, case.quiet)
        self.assertEqual(found, (LAMP, ("ordered", "unordered"), TURNS, 3))

    def test_a_list_of_views_is_stored_as_a_tuple_and_may_be_changed_later(self):
        views = ["ordered", "unordered"]
        case = Case(LAMP, views, TURNS)
        self.assertEqual(views, ["ordered", "unordered"])
        views[0] = "sideways"
        views.append("ignored")
        self.assertEqual(case.views, ("ordered", "unordered"))
        self.assertIs(case.views.__class__, tuple)

    def test_the_machines_are_not_modified(self):
        before = copy.deepcopy((LAMP, TURNS))
        Case(LAMP, ["ordered", "ordered"], TURNS, 60)
        self.assertEqual((LAMP, TURNS), before)

    def test_every_view_for_each_channel(self):
        for views in itertools.product(VIEWS, repeat=2):
            self.assertEqual(Case(LAMP, views, FREE).views, views)
        self.assertEqual(Case(THREE, VIEWS, FREE).views, VIEWS)

    def test_no_views_without_channels(self):
        self.assertEqual(Case(MUTE, [], FREE).views, ())
        self.assertEqual(Case(MUTE, (), FREE).views, ())
        self.assert_invalid(MUTE, ("ordered",), FREE)
        self.assert_invalid(MUTE, ("",), FREE)

    def test_too_few_and_too_many_views(self):
        for many in (0, 1, 3, 4):
            self.assert_invalid(LAMP, ("ordered",) * many, FREE)
        for many in (0, 2, 4):
            self.assert_invalid(THREE, ("ignored",) * many, FREE)

    def test_other_words_than_the_three_views(self):
        for word in ("", "Ordered", "ORDERED", "ordered ", " ordered", "order", "disordered", "lamp", "ignored\n"):
            self.assert_invalid(LAMP, (word, "ordered"), FREE)
            self.assert_invalid(LAMP, ["ordered", word], FREE)

    def test_views_of_other_kinds(self):
        for view in (None, True, False, 0, 1, 10**40, b"ordered", [], ["ordered"], ("ordered",), {}, {"ordered"}):
            self.assert_invalid(LAMP, (view, "ordered"), FREE)
            self.assert_invalid(LAMP, ["ordered", view], FREE)

    def test_what_is_no_list_of_views(self):
        for views in (*NO_LISTS, {"ordered", "ignored"}, {"ordered": 1, "ignored": 2}, "or", iter(VIEWS[:2])):
            with self.subTest(repr(views)):
                self.assert_invalid(LAMP, views, FREE)
        for views in NO_LISTS:
            with self.subTest(repr(views)):
                self.assert_invalid(MUTE, views, FREE)

    def test_the_quiet_times_0_and_60(self):
        for quiet in (0, 1, 59, 60):
            self.assertEqual(Case(LAMP, ("ordered", "ordered"), FREE, quiet).quiet, quiet)

    def test_other_quiet_times(self):
        for quiet in (-1, 61, -60, 100, 10**400, -(10**400), *NO_INTEGERS):
            with self.subTest(repr(quiet)[:20]):
                self.assert_invalid(LAMP, ("ordered", "ordered"), FREE, quiet)
                self.assert_invalid(LAMP, ("ordered", "ordered"), FREE, quiet=quiet)

    def test_names_that_differ(self):
        for line in ("on", "off", "off on", "on off up", "on of", "on up", "up on off"):
            with self.subTest(line):
                self.assert_invalid(LAMP, ("ordered", "ordered"), parse_machine(f"hears {line}\nstate x", traffic=True))

    def test_a_program_has_no_bans(self):
        for ban in ("ban x on", "ban x tick", "rule x on x\nban x on", "ban y off when t from 60\nrule x on y"):
            machine = parse_machine(f"hears on off\nclocks t\nstate x\nstate y\n{ban}", traffic=True)
            with self.subTest(ban):
                self.assert_invalid(machine, (), FREE)
                self.assertEqual(Case(MUTE, (), machine).traffic, machine)

    def test_a_traffic_machine_has_no_channels(self):
        self.assert_invalid(LAMP, ("ordered", "ordered"), LAMP)
        self.assert_invalid(MUTE, (), THREE)
        self.assert_invalid(MUTE, (), Machine(("on", "off"), (), (("c", ("x",)),), ("s",), ()))

    def test_a_machine_without_channels_and_bans_may_be_both(self):
        case = Case(MUTE, (), MUTE)
        self.assertEqual((case.program, case.traffic), (MUTE, MUTE))

    def test_what_is_no_machine(self):
        for other in (None, True, 0, "", "hears on off\nstate a", (), [], {}):
            self.assert_invalid(other, (), FREE)
            self.assert_invalid(MUTE, (), other)


class DelaysTest(unittest.TestCase):
    def assert_invalid(self, *parts, **named):
        with self.assertRaises(InvalidDelays) as caught:
            Delays(*parts, **named)
        self.assertIs(caught.exception.__class__, InvalidDelays)
        self.assertIsInstance(caught.exception, LateError)

    def test_the_attributes(self):
        delays = Delays(("a", "b", "c"), (0, 9, 3), ("a", "c"), ("b",))
        found = (delays.names, delays.late, delays.lost, delays.twice)
        self.assertEqual(found, (("a", "b", "c"), (0, 9, 3), ("a", "c"), ("b",)))

    def test_nothing_is_lost_or_comes_twice_if_nothing_else_is_said(self):
        delays = Delays(("a",), (1,))
        self.assertEqual((delays.lost, delays.twice), ((), ()))
        self.assertEqual(Delays(("a",), (1,), ("a",)).twice, ())

    def test_arguments_by_their_names(self):
        delays = Delays(twice=["b"], lost=["a"], late=[4, 5], names=["a", "b"])
        found = (delays.names, delays.late, delays.lost, delays.twice)
        self.assertEqual(found, (("a", "b"), (4, 5), ("a",), ("b",)))

    def test_lists_are_stored_as_tuples_and_may_be_changed_later(self):
        given = (["a", "b"], [1, 2], ["a"], ["a", "b"])
        delays = Delays(*given)
        self.assertEqual(given, (["a", "b"], [1, 2], ["a"], ["a", "b"]))
        for part in given:
            part.clear()
        found = (delays.names, delays.late, delays.lost, delays.twice)
        self.assertEqual(found, (("a", "b"), (1, 2), ("a",), ("a", "b")))
        for part in found:
            self.assertIs(part.__class__, tuple)

    def test_each_lateness_from_0_to_9(self):
        for late in range(10):
            self.assertEqual(Delays(("a", "b"), (late, 9 - late)).late, (late, 9 - late))

    def test_other_latenesses(self):
        for late in (-1, 10, 11, -9, 10**400, -(10**400), *NO_INTEGERS):
            with self.subTest(repr(late)[:20]):
                self.assert_invalid(("a",), (late,))
                self.assert_invalid(("a", "b"), (late, 0))
                self.assert_invalid(("a", "b"), [9, late])

    def test_one_lateness_for_each_name(self):
        for names in (("a",), ("a", "b"), ("a", "b", "c", "d")):
            for many in range(6):
                if many == len(names):
                    self.assertEqual(Delays(names, (3,) * many).late, (3,) * many)
                else:
                    self.assert_invalid(names, (3,) * many)

    def test_what_is_no_list_of_latenesses(self):
        for late in (*NO_LISTS, {1: 2}, {1, 2}, "12", b"12", range(2), iter((1, 2))):
            with self.subTest(repr(late)):
                self.assert_invalid(("on", "off"), late)

    def test_every_set_of_names_in_their_order(self):
        names = ("d", "a", "c", "b")
        for many in range(5):
            for chosen in itertools.combinations(names, many):
                self.assertEqual(Delays(names, (1,) * 4, chosen).lost, chosen)
                self.assertEqual(Delays(names, (1,) * 4, (), list(chosen)).twice, chosen)

    def test_names_out_of_order_or_repeated_or_unknown(self):
        names = ("d", "a", "c")
        wrong = (
            ("a", "d"), ("c", "a", "d"), ("d", "c", "a"), ("d", "d"), ("d", "a", "a"), ("d", "a", "d"),
            ("e",), ("d", "e"), ("d", "a", "c", "e"), ("tick",), ("",), ("D",), ("da",), ("d ",), ("d", "tick"),
        )
        for chosen in wrong:
            with self.subTest(chosen):
                self.assert_invalid(names, (1, 1, 1), chosen)
                self.assert_invalid(names, (1, 1, 1), list(chosen))
                self.assert_invalid(names, (1, 1, 1), (), chosen)
                self.assert_invalid(names, (1, 1, 1), twice=list(chosen))

    def test_members_of_other_kinds(self):
        for member in (None, True, False, 0, 1, 10**40, b"a", [], ["a"], ("a",), {}, {"a"}):
            with self.subTest(repr(member)):
                self.assert_invalid(("a", "b"), (1, 1), (member,))
                self.assert_invalid(("a", "b"), (1, 1), ["a", member])
                self.assert_invalid(("a", "b"), (1, 1), (), [member])
                self.assert_invalid(("a", "b"), (1, 1), ("a",), ("a", member))

    def test_what_is_no_list_of_names(self):
        for chosen in (*NO_LISTS, "a", "ab", {"a"}, {"a": 1}, b"a", iter(("a",))):
            with self.subTest(repr(chosen)):
                self.assert_invalid(("a", "b"), (1, 1), chosen)
                self.assert_invalid(("a", "b"), (1, 1), (), chosen)

    def test_a_name_may_be_lost_and_come_twice(self):
        delays = Delays(("a", "b"), (0, 9), ("b",), ("b",))
        self.assertEqual((delays.lost, delays.twice), (("b",), ("b",)))


class LooksSameTest(unittest.TestCase):
    def assert_looks(self, view, first, second, expected):
        for one, other in ((first, second), (second, first)):
            self.assertIs(looks_same(view, list(one), list(other)), expected)
            self.assertIs(looks_same(view, tuple(one), list(other)), expected)
            self.assertIs(looks_same(view, list(one), tuple(other)), expected)

    def test_ordered_if_they_are_equal(self):
        for text in ("", "x", "xy", "xxyx"):
            self.assert_looks("ordered", text, text, True)
        for first, second in (("", "x"), ("x", "y"), ("xy", "yx"), ("xy", "xyx"), ("xx", "xy"), ("xyy", "xxy")):
            self.assert_looks("ordered", first, second, False)

    def test_unordered_if_each_signal_is_there_equally_often(self):
        for first, second in (("", ""), ("xy", "yx"), ("xxyz", "zxyx"), ("xyxy", "yyxx")):
            self.assert_looks("unordered", first, second, True)
        for first, second in (("", "x"), ("x", "y"), ("xy", "xyx"), ("xxy", "xyy"), ("xyz", "xy")):
            self.assert_looks("unordered", first, second, False)

    def test_ignored_always(self):
        for first, second in (("", ""), ("", "x"), ("x", "y"), ("xy", "yxx"), ("xxx", "")):
            self.assert_looks("ignored", first, second, True)

    def test_arguments_by_their_names_and_unmodified(self):
        first, second = ["y", "x"], ["x", "y"]
        self.assertIs(looks_same(second=second, first=first, view="unordered"), True)
        self.assertIs(looks_same(second=second, first=first, view="ordered"), False)
        self.assertEqual((first, second), (["y", "x"], ["x", "y"]))


class DifferenceTest(unittest.TestCase):
    signals = ("y", "x", "z")

    def assert_difference(self, view, first, second, left, right):
        expected = tuple(left), tuple(right)
        for made in (list, tuple):
            self.assertEqual(difference(view, self.signals, made(first), made(second)), expected)
            self.assertEqual(difference(view, self.signals, made(second), made(first)), expected[::-1])
        self.assertIs(looks_same(view, list(first), list(second)), expected == ((), ()))

    def test_ordered_without_the_longest_common_prefix(self):
        self.assert_difference("ordered", "", "", "", "")
        self.assert_difference("ordered", "xyz", "xyz", "", "")
        self.assert_difference("ordered", "xy", "xyxz", "", "xz")
        self.assert_difference("ordered", "xyz", "xzy", "yz", "zy")
        self.assert_difference("ordered", "xyz", "zyz", "xyz", "zyz")
        self.assert_difference("ordered", "", "xx", "", "xx")
        self.assert_difference("ordered", "xxy", "xxxy", "y", "xy")

    def test_unordered_what_is_in_excess_in_the_order_of_the_channel(self):
        self.assert_difference("unordered", "", "", "", "")
        self.assert_difference("unordered", "xyz", "zyx", "", "")
        self.assert_difference("unordered", "zxy", "", "yxz", "")
        self.assert_difference("unordered", "xzzx", "y", "xxzz", "y")
        self.assert_difference("unordered", "xyxx", "zxyzz", "xx", "zzz")
        self.assert_difference("unordered", "zzzy", "zyx", "zz", "x")

    def test_ignored_is_empty(self):
        for first, second in (("", ""), ("x", ""), ("x", "y"), ("xyz", "zzz")):
            self.assert_difference("ignored", first, second, "", "")

    def test_the_order_is_that_of_the_channel(self):
        self.assertEqual(difference("unordered", ("x", "y", "z"), list("zyx"), []), (("x", "y", "z"), ()))
        self.assertEqual(difference("unordered", ["z", "y", "x"], list("xyz"), []), (("z", "y", "x"), ()))

    def test_arguments_by_their_names_and_unmodified(self):
        first, second, signals = ["x", "y"], ["x", "z"], ["x", "y", "z"]
        pair = difference(second=second, first=first, signals=signals, view="ordered")
        self.assertEqual(pair, (("y",), ("z",)))
        self.assertEqual((first, second, signals), (["x", "y"], ["x", "z"], ["x", "y", "z"]))

    def test_all_short_lists(self):
        lists = [list(some) for many in range(4) for some in itertools.product(self.signals, repeat=many)]
        for view in VIEWS:
            for first, second in itertools.product(lists, repeat=2):
                pair = difference(view, self.signals, first, second)
                self.assertEqual(pair, brute.difference(view, self.signals, first, second))
                self.assertIs(looks_same(view, first, second), pair == ((), ()))


class ExtendedTest(unittest.TestCase):
    def test_ordered(self):
        signals = ("x", "y")
        self.assertEqual(extended("ordered", signals, ((), ()), ["x", "y"], ["x"]), (("y",), ()))
        self.assertEqual(extended("ordered", signals, (("y",), ()), [], ["y"]), ((), ()))
        self.assertEqual(extended("ordered", signals, (("y",), ()), ["x"], ["y", "x", "x"]), ((), ("x",)))
        self.assertEqual(extended("ordered", signals, (("y",), ("x",)), ["x"], ["y"]), (("y", "x"), ("x", "y")))
        self.assertEqual(extended("ordered", signals, (("x",), ()), ["x"], ["x"]), (("x",), ()))

    def test_unordered(self):
        signals = ("y", "x")
        self.assertEqual(extended("unordered", signals, ((), ()), ["x", "y"], ["x"]), (("y",), ()))
        self.assertEqual(extended("unordered", signals, (("y",), ("x",)), ["x"], ["y"]), ((), ()))
        self.assertEqual(extended("unordered", signals, (("x",), ()), ["y"], []), (("y", "x"), ()))
        self.assertEqual(extended("unordered", signals, (("x", "x"), ()), [], ["x", "y"]), (("x",), ("y",)))

    def test_ignored(self):
        for first, second in ((), ()), (("x",), ()), (("x", "y"), ("y",)):
            self.assertEqual(extended("ignored", ("x", "y"), ((), ()), first, second), ((), ()))

    def test_lists_and_tuples_by_their_names_and_unmodified(self):
        pair, first, second, signals = [["y"], []], ("x",), ["y"], ["x", "y"]
        found = extended(second=second, first=first, pair=pair, signals=signals, view="ordered")
        self.assertEqual(found, (("x",), ()))
        self.assertEqual((pair, first, second, signals), ([["y"], []], ("x",), ["y"], ["x", "y"]))

    def test_it_is_the_difference_of_the_continued_lists(self):
        chance = random.Random(13)
        signals = ("z", "x", "w", "y")
        for _ in range(3000):
            view = chance.choice(VIEWS)
            lists = [chance.choices(signals[:chance.randint(1, 4)], k=chance.randint(0, 5)) for _ in range(4)]
            if chance.random() < 0.5:
                lists[1] = lists[0][:chance.randint(0, 5)]
            pair = difference(view, signals, lists[0], lists[1])
            found = extended(view, signals, pair, lists[2], lists[3])
            self.assertEqual(found, difference(view, signals, lists[0] + lists[2], lists[1] + lists[3]))


class InterfaceTest(unittest.TestCase):
    def test_names_and_arguments(self):
        expected = {
            "Case": "(program, views, traffic, quiet=0)",
            "Delays": "(names, late, lost=(), twice=())",
            "looks_same": "(view, first, second)",
            "difference": "(view, signals, first, second)",
            "extended": "(view, signals, pair, first, second)",
        }
        for name, arguments in expected.items():
            found = getattr(cases, name)
            self.assertEqual(str(inspect.signature(found)), arguments)
            self.assertEqual(found.__module__, "latecoming.cases")


if __name__ == "__main__":
    unittest.main()
