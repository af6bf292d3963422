"""The greatest delays that are harmless (point 22)."""

import copy
import inspect
import itertools
import random
import unittest

from examples import case_of, chosen_case, delays, echo_case, lamp_case, row_of
from latecoming import greatest
from latecoming.cases import Case, Delays
from latecoming.errors import InvalidDelays, TooLarge
from latecoming.greatest import greatest_doubles, greatest_lateness, greatest_losses
from latecoming.machines import Machine
from latecoming.search import first_harm
from latecoming.texts import parse_machine

# One message, at the beginning; then ticks.
ONE = "hears a\nstate x\nstate y\nrule x a y\nban x tick\nban y a"


def late_case(ticks):
    """Returns a case in which it shows if the only message comes after so many ticks."""
    program = "hears a\nclocks t\nchannel c x\nstate s\nrule s a s when t from {} emit c x"
    return case_of(program.format(ticks), ONE, "ordered")


def both_late_case(names="a b"):
    """Returns a case in which it shows only if both messages, an a and a b, come after a tick."""
    program = f"hears {names}\nclocks t\nchannel c x\nstate s\nstate a1\nstate b1\nstate e"
    program += "\nrule s a a1 when t from 1\nrule s b b1 when t from 1"
    program += "\nrule a1 b e when t from 1 emit c x\nrule b1 a e when t from 1 emit c x"
    return case_of(program, first_then(names, "a", "b"), "ordered")


def first_then(names, *row):
    """Returns the text of traffic in which these names are sent in this order, before any tick."""
    text = f"hears {names}" + "".join(f"\nstate x{at}" for at in range(len(row) + 1))
    for at, due in enumerate(row):
        text += f"\nrule x{at} {due} x{at + 1}\nban x{at} tick"
    for at in range(len(row) + 1):
        text += "".join(f"\nban x{at} {name}" for name in names.split() if row[at:at + 1] != (name,))
    return text


def all_lost_case(names):
    """Returns a case in which it shows only if all messages are lost, each of which is sent once."""
    row = names.split()
    program = f"hears {names}\nchannel c x\nstate s\nstate e\nrule s tick e emit c x"
    program += "".join(f"\nrule s {name} e" for name in row)
    return case_of(program, first_then(names, *row), "ordered")


def both_twice_case(names="a b"):
    """Returns a case in which it shows only if both an a and a b after it come twice."""
    program = f"hears {names}\nchannel c x\nstate s\nstate a1\nstate a2\nstate b1\nstate b2"
    program += "\nrule s a a1\nrule a1 a a2\nrule a2 b b1\nrule b1 b b2 emit c x"
    return case_of(program, first_then(names, "a", "b"), "ordered")


def counting_case():
    """Returns a harmless case in which the search is too large if an a may be lost or come twice."""
    program = "hears a b" + rounds_of("s", 20)
    return case_of(program, "hears a b" + rounds_of("x", 3) + "\nban x0 b\nban x1 b\nban x2 b")


def rounds_of(letter, many):
    """Returns the states and rules of a machine that counts each a, modulo so many."""
    states = "".join(f"\nstate {letter}{at}" for at in range(many))
    return states + "".join(f"\nrule {letter}{at} a {letter}{(at + 1) % many}" for at in range(many))


def chosen_few(chance):
    """Returns a case and delays in which each of a few names is sent once at most."""
    names = chance.choice((("a", "b"), ("b", "a"), ("c", "a", "b")))
    rules = []
    for state, item in itertools.product(range(5), (*names, "tick")):
        conditions = ((0, "from", chance.choice((1, 2))),) if chance.random() < 0.3 else ()
        rules.append((state, item, chance.randrange(5), conditions, (), ()))
    at = chance.randrange(len(rules))
    rules[at] = (*rules[at][:5], ((0, "x"),))
    program = Machine(names, ("t",), (("k", ("x",)),), ("s0", "s1", "s2", "s3", "s4"), tuple(rules))
    traffic = parse_machine(first_then(" ".join(names), *names), traffic=True)
    late = [chance.choice((0, 0, 1)) for _ in names]
    few = [[name for name in names if chance.random() < 0.1] for _ in range(2)]
    return Case(program, ["ordered"], traffic), Delays(names, late, *few)


class GreatestLatenessTest(unittest.TestCase):
    def test_of_one_name(self):
        # A message of lateness n may come after n - 1 ticks.
        for ticks in range(1, 7):
            for bound in range(5):
                self.assertEqual(greatest_lateness(late_case(ticks), bound), [(min(bound, ticks),)])

    def test_bound_0(self):
        self.assertEqual(greatest_lateness(lamp_case(), 0), [(0, 0)])
        self.assertEqual(greatest_lateness(echo_case(), 0), [(0, 0)])
        self.assertEqual(greatest_lateness(echo_case(), 0, lost=("a",)), [])
        four = "hears d c b a\nstate s"
        self.assertEqual(greatest_lateness(case_of(four, four), 0), [(0, 0, 0, 0)])

    def test_bound_4(self):
        self.assertEqual(greatest_lateness(both_late_case(), 4), [(1, 4), (4, 1)])
        self.assertEqual(greatest_lateness(late_case(3), 4), [(3,)])
        self.assertEqual(greatest_lateness(late_case(4), 4), [(4,)])

    def test_of_four_names_with_bound_4(self):
        program = "hears a b c d\nclocks t\nchannel k x\nstate s"
        program += "".join(f"\nrule s {name} s when t from {at} emit k x" for at, name in enumerate("abcd", start=1))
        traffic = "hears a b c d\nstate x\nstate y\nban x tick"
        traffic += "".join(f"\nrule x {name} y\nban y {name}" for name in "abcd")
        self.assertEqual(greatest_lateness(case_of(program, traffic, "ordered"), 4), [(1, 2, 3, 4)])
        self.assertEqual(greatest_lateness(case_of(program, traffic, "ordered"), 2), [(1, 2, 2, 2)])

    def test_the_order_of_the_names_is_that_of_the_case(self):
        case = case_of(
            "hears b a\nclocks t\nchannel c x\nstate s\nrule s a s when t from 1 emit c x",
            first_then("b a", "b", "a"), "ordered",
        )
        self.assertEqual(greatest_lateness(case, 3), [(3, 1)])

    def test_tuples_of_which_none_is_below_another_in_ascending_order(self):
        found = greatest_lateness(both_late_case(), 3)
        self.assertEqual(found, [(1, 3), (3, 1)])
        for bound in (1, 2, 3, 4):
            self.assertEqual(greatest_lateness(both_late_case(), bound), sorted({(1, bound), (bound, 1)}))

    def test_no_lateness_is_harmless(self):
        program = "hears a b\nchannel c x\nstate s\nrule s b s emit c x"
        case = case_of(program, first_then("a b", "a", "b"), "ordered")
        for bound in (0, 1, 4):
            self.assertEqual(greatest_lateness(case, bound, ["b"]), [])
            self.assertEqual(greatest_lateness(case, bound, twice=["b"]), [])
            self.assertEqual(greatest_lateness(case, bound, ["a"], ["a"]), [(bound, bound)])

    def test_with_what_may_be_lost_or_come_twice(self):
        program = "hears a b\nclocks t\nchannel c x\nstate s\nstate u\nrule s a u when t from 2"
        program += "\nrule u a s emit c x"
        case = case_of(program, first_then("a b", "a"), "ordered")
        self.assertEqual(greatest_lateness(case, 3), [(3, 3)])
        self.assertEqual(greatest_lateness(case, 3, lost=["a"]), [(3, 3)])
        self.assertEqual(greatest_lateness(case, 3, twice=["b"]), [(3, 3)])
        self.assertEqual(greatest_lateness(case, 3, lost=["b"], twice=["a"]), [(2, 3)])
        self.assertEqual(greatest_lateness(case, 3, ("a", "b"), ("a", "b")), [(2, 3)])

    def test_a_bound_beyond_the_limit(self):
        self.assertEqual(greatest_lateness(late_case(5), 5), [(5,)])
        self.assertEqual(greatest_lateness(late_case(5), 6), [(5,)])

    def test_invalid_delays(self):
        for wrong in (["c"], ["b", "a"], ["a", "a"], ["tick"], [0], [None], "a", None):
            for bound in (0, 4):
                with self.assertRaises(InvalidDelays):
                    greatest_lateness(echo_case(), bound, lost=wrong)
                with self.assertRaises(InvalidDelays):
                    greatest_lateness(echo_case(), bound, twice=wrong)

    def test_too_large(self):
        case = case_of("hears a\nstate s", row_of("a", 7))
        self.assertEqual(greatest_lateness(case, 0), [(0,)])
        for bound in (1, 4):
            with self.assertRaises(TooLarge):
                greatest_lateness(case, bound)

    def test_too_large_although_another_search_tells_the_answer(self):
        program = "hears a\nchannel c x" + "".join(f"\nstate s{at}" for at in range(9))
        program += "".join(f"\nrule s{at} a s{at + 1}" for at in range(7)) + "\nrule s7 a s8 emit c x"
        case = case_of(program, "hears a\nstate x\nban x tick", "ordered")
        self.assertEqual(greatest_lateness(case, 0, lost=["a"]), [])
        with self.assertRaises(TooLarge):
            greatest_lateness(case, 1, lost=["a"])


class GreatestLossesTest(unittest.TestCase):
    def test_all_or_none(self):
        self.assertEqual(greatest_losses(echo_case(view="ignored"), [0, 0]), [("a", "b")])
        self.assertEqual(greatest_losses(echo_case(), [0, 0]), [()])
        self.assertEqual(greatest_losses(echo_case("\nban s a"), [0, 0]), [("a",)])
        self.assertEqual(greatest_losses(echo_case("\nban s b"), [0, 0]), [("b",)])
        self.assertEqual(greatest_losses(echo_case("\nban s tick"), [1, 1]), [])
        self.assertEqual(greatest_losses(echo_case("\nban s tick"), [0, 0], ["b"]), [])

    def test_several_sets(self):
        self.assertEqual(greatest_losses(all_lost_case("a b"), [0, 0]), [("a",), ("b",)])
        self.assertEqual(greatest_losses(all_lost_case("a b c"), [0] * 3), [("a", "b"), ("a", "c"), ("b", "c")])

    def test_the_order_of_the_names_is_that_of_the_case(self):
        self.assertEqual(greatest_losses(all_lost_case("b a"), [0, 0]), [("b",), ("a",)])
        self.assertEqual(greatest_losses(all_lost_case("c a b"), [0] * 3), [("c", "a"), ("c", "b"), ("a", "b")])
        found = greatest_losses(all_lost_case("d c b a"), [0] * 4)
        self.assertEqual(found, [("d", "c", "b"), ("d", "c", "a"), ("d", "b", "a"), ("c", "b", "a")])

    def test_sets_of_different_sizes_by_their_indexes(self):
        # It shows if the first one is lost and also another one.
        program = "hears {0}\nchannel k x\nstate s\nstate o\nstate e\nrule s {1} e\nrule s {2} o\nrule o {3} e"
        program += "\nrule s tick e emit k x\nrule o tick e emit k x"
        for names, row, expected in (
            ("a b c", "a b c", [("a",), ("b", "c")]), ("b a c", "a b c", [("b", "c"), ("a",)]),
            ("b c a", "a b c", [("b", "c"), ("a",)]), ("c a b", "a c b", [("c", "b"), ("a",)]),
        ):
            case = case_of(program.format(names, *row.split()), first_then(names, *row.split()), "ordered")
            self.assertEqual(greatest_losses(case, [0] * 3), expected)

    def test_with_lateness_and_what_may_come_twice(self):
        case = all_lost_case("a b")
        self.assertEqual(greatest_losses(case, [1, 1]), [("a",), ("b",)])
        self.assertEqual(greatest_losses(case, [0, 2], ["a", "b"]), [("b",)])
        # The sender may stop behind the a, which may then come after a tick.
        self.assertEqual(greatest_losses(case, [2, 0]), [])
        self.assertEqual(greatest_losses(case, [2, 2]), [])

    def test_invalid_delays(self):
        wrong_lates = ([0], [0, 0, 0], [0, 10], [-1, 0], [0, True], ["0", 0], [None, 0], "00", 0)
        for find in (greatest_losses, greatest_doubles):
            for late in wrong_lates:
                with self.assertRaises(InvalidDelays):
                    find(echo_case(), late)
            for wrong in (["c"], ["b", "a"], ["a", "a"], ["tick"], [0], "a", None):
                with self.assertRaises(InvalidDelays):
                    find(echo_case(), [0, 0], wrong)

    def test_too_large(self):
        self.assertIsNone(first_harm(counting_case(), delays([0, 0])))
        with self.assertRaises(TooLarge):
            greatest_losses(counting_case(), [0, 0])
        with self.assertRaises(TooLarge):
            greatest_losses(echo_case(view="ignored"), [1, 0])

    def test_too_large_although_another_search_tells_the_answer(self):
        # A b may be sent after sixty ticks. With the a that are lost before, there are too many scenes.
        program = "hears a b\nchannel c x" + rounds_of("s", 5) + "".join(f"\nrule s{at} b s0 emit c x" for at in range(5))
        case = case_of(program, "hears a b\nclocks t\nstate x\nban x b when t under 60", "ordered")
        self.assertIsNotNone(first_harm(case, delays([0, 0], twice="b")))
        with self.assertRaises(TooLarge):
            first_harm(case, delays([0, 0], lost="a", twice="b"))
        with self.assertRaises(TooLarge):
            greatest_losses(case, [0, 0], ["b"])


class GreatestDoublesTest(unittest.TestCase):
    def test_all_or_none(self):
        self.assertEqual(greatest_doubles(echo_case(view="ignored"), [0, 0]), [("a", "b")])
        self.assertEqual(greatest_doubles(echo_case(), [0, 0]), [()])
        self.assertEqual(greatest_doubles(echo_case("\nban s a"), [0, 0]), [("a",)])
        self.assertEqual(greatest_doubles(echo_case("\nban s tick"), [0, 0], ["b"]), [])
        case = case_of("hears a\nclocks t\nchannel c x\nstate s\nrule s a s when t from 1 emit c x", ONE, "ordered")
        self.assertEqual(greatest_doubles(case, [2]), [])

    def test_several_sets(self):
        self.assertEqual(greatest_doubles(both_twice_case(), [0, 0]), [("a",), ("b",)])
        self.assertEqual(greatest_doubles(both_twice_case("b a"), [0, 0]), [("b",), ("a",)])
        self.assertEqual(greatest_doubles(both_twice_case("b c a"), [0, 0, 0]), [("b", "c"), ("c", "a")])

    def test_with_lateness_and_what_may_be_lost(self):
        program = "hears a b\nclocks t\nchannel c x\nstate s\nstate u\nrule s a u\nrule u a s when t from 1 emit c x"
        case = case_of(program, first_then("a b", "a"), "ordered")
        self.assertEqual(greatest_doubles(case, [1, 0]), [("a", "b")])
        self.assertEqual(greatest_doubles(case, [2, 0]), [("b",)])
        self.assertEqual(greatest_doubles(case, [2, 0], ["a", "b"]), [("b",)])

    def test_too_large(self):
        self.assertEqual(greatest_doubles(case_of("hears a\nstate s", row_of("a", 3)), [1]), [("a",)])
        with self.assertRaises(TooLarge):
            greatest_doubles(case_of("hears a\nstate s", row_of("a", 4)), [1])
        with self.assertRaises(TooLarge):
            greatest_doubles(counting_case(), [0, 0])
        with self.assertRaises(TooLarge):
            greatest_doubles(counting_case(), [0, 0], ["a"])

    def test_too_large_although_another_search_tells_the_answer(self):
        # The loss of a fourth a shows, but three that come twice and one that does not are seven copies.
        program = "hears a\nchannel c x" + "".join(f"\nstate s{at}" for at in range(5))
        program += "\nrule s0 a s1\nrule s1 a s2\nrule s2 a s3\nrule s3 a s4 emit c x"
        case = case_of(program, row_of("a", 4) + "".join(f"\nban x{at} tick" for at in range(5)), "ordered")
        self.assertIsNotNone(first_harm(case, Delays(["a"], [1], ["a"])))
        with self.assertRaises(TooLarge):
            first_harm(case, Delays(["a"], [1], ["a"], ["a"]))
        with self.assertRaises(TooLarge):
            greatest_doubles(case, [1], ["a"])


class AgainstDefinitionsTest(unittest.TestCase):
    """Compares the lists with all searches, one by one."""

    def test_chosen_cases(self):
        ends = self.compare(random.Random(22), 120, chosen_case)
        self.assertGreater(ends.count("large"), 20)
        self.assertGreater(ends.count(0), 20)
        self.assertGreater(ends.count(1), 20)

    def test_chosen_programs_with_few_messages(self):
        ends = self.compare(random.Random(23), 250, chosen_few)
        self.assertGreater(ends.count(0), 20)
        self.assertGreater(ends.count(1), 20)
        self.assertGreater(ends.count(2) + ends.count(3), 10)

    def compare(self, chance, many, choose):
        ends = []
        for _ in range(many):
            case, late = choose(chance)
            bound = chance.choice((0, 1, 2, 4)) if len(late.names) < 3 else chance.choice((0, 1))
            small = [min(lateness, 2) for lateness in late.late]
            ends.append(self.compare_lateness(case, bound, late))
            ends.append(self.compare_sets(case, small, late, greatest_losses))
            ends.append(self.compare_sets(case, small, late, greatest_doubles))
        return ends

    def compare_lateness(self, case, bound, late):
        harmless = []
        try:
            for lates in itertools.product(range(bound + 1), repeat=len(late.names)):
                if first_harm(case, Delays(late.names, lates, late.lost, late.twice)) is None:
                    harmless.append(lates)
        except TooLarge:
            with self.assertRaises(TooLarge):
                greatest_lateness(case, bound, late.lost, late.twice)
            return "large"
        expected = []
        for lates in harmless:
            above = [other for other in harmless if other != lates and all(map(int.__ge__, other, lates))]
            if above == []:
                expected.append(lates)
        self.assertEqual(greatest_lateness(case, bound, late.lost, late.twice), expected)
        return len(expected)

    def compare_sets(self, case, lates, late, find):
        other = late.twice if find is greatest_losses else late.lost
        harmless = []
        try:
            for many in range(len(late.names) + 1):
                for chosen in itertools.combinations(late.names, many):
                    given = (chosen, other) if find is greatest_losses else (other, chosen)
                    if first_harm(case, Delays(late.names, lates, *given)) is None:
                        harmless.append(chosen)
        except TooLarge:
            with self.assertRaises(TooLarge):
                find(case, lates, other)
            return "large"
        expected = [chosen for chosen in harmless if not any(set(chosen) < set(more) for more in harmless)]
        expected.sort(key=lambda chosen: [late.names.index(name) for name in chosen])
        self.assertEqual(find(case, lates, other), expected)
        return len(expected)


class InterfaceTest(unittest.TestCase):
    def test_names_and_arguments(self):
        expected = {
            "greatest_lateness": "(case, bound, lost=(), twice=())",
            "greatest_losses": "(case, late, twice=())",
            "greatest_doubles": "(case, late, lost=())",
        }
        for name, arguments in expected.items():
            found = getattr(greatest, name)
            self.assertEqual(str(inspect.signature(found)), arguments)
            self.assertEqual(found.__module__, "latecoming.greatest")

    def test_lists_of_tuples(self):
        found = greatest_lateness(both_late_case(), 2), greatest_losses(all_lost_case("a b"), (0, 0))
        for rows in (*found, greatest_doubles(both_twice_case(), (0, 0))):
            self.assertIs(rows.__class__, list)
            self.assertEqual([row.__class__ for row in rows], [tuple, tuple])

    def test_arguments_are_not_modified_and_results_not_shared(self):
        case, late, names = both_twice_case(), [1, 0], ["a"]
        before = copy.deepcopy((vars(case), late, names))
        calls = (
            lambda: greatest_lateness(case, 1, names, names),
            lambda: greatest_losses(case, late, names),
            lambda: greatest_doubles(case, late, names),
        )
        for call in calls:
            found = call()
            kept = list(found)
            found.append("more")
            self.assertEqual(call(), kept)
        self.assertEqual((vars(case), late, names), before)


if __name__ == "__main__":
    unittest.main()
