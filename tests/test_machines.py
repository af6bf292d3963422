"""Machines, and how they hear items (points 1 to 6)."""

import copy
import unittest

from latecoming.machines import Machine, caps, forbids, permitted, run, start, step

FIVE = (
    ("on", "off"),
    ("t", "u"),
    (("lamp", ("lit", "dark")),),
    ("a", "b"),
    ((0, "on", 1, ((0, "under", 3),), (1,), ((0, "lit"),)),),
)
OTHERS = (
    ("on", "of"),
    ("t", "v"),
    (("lamp", ("dark", "lit")),),
    ("a", "c"),
    ((0, "on", 1, ((0, "from", 3),), (1,), ((0, "lit"),)),),
)


def machine_with(*rules, clocks=("t",), channels=(("c", ("x", "y")), ("d", ("z",)))):
    """Returns a machine with the states a, b and c that hears m and n."""
    return Machine(("m", "n"), clocks, channels, ("a", "b", "c"), rules)


def leads(item, target, *conditions, state=0, resets=(), signals=()):
    return (state, item, target, conditions, resets, signals)


def ban(item, *conditions, state=0):
    return (state, item, None, conditions, (), ())


class MachineTest(unittest.TestCase):
    def test_the_five_attributes(self):
        machine = Machine(*FIVE)
        found = (machine.names, machine.clocks, machine.channels, machine.states, machine.rules)
        self.assertEqual(found, FIVE)

    def test_arguments_by_name(self):
        machine = Machine(names=FIVE[0], clocks=FIVE[1], channels=FIVE[2], states=FIVE[3], rules=FIVE[4])
        self.assertEqual(machine, Machine(*FIVE))

    def test_lists_are_stored_as_tuples(self):
        given = [list(part) for part in FIVE]
        machine = Machine(*given)
        self.assertEqual(given, [list(part) for part in FIVE])
        for part in given:
            part.clear()
        for name, value in zip(("names", "clocks", "channels", "states", "rules"), FIVE):
            self.assertIs(tuple, getattr(machine, name).__class__)
            self.assertEqual(getattr(machine, name), value)
        self.assertEqual(machine, Machine(*FIVE))

    def test_equal_machines(self):
        self.assertTrue(Machine(*FIVE) == Machine(*FIVE))
        self.assertFalse(Machine(*FIVE) != Machine(*FIVE))
        self.assertTrue(Machine((), (), (), (), ()) == Machine([], [], [], [], []))

    def test_machines_that_differ_in_one_of_the_five(self):
        for place, other in enumerate(OTHERS):
            with self.subTest(place):
                parts = list(FIVE)
                parts[place] = other
                self.assertFalse(Machine(*FIVE) == Machine(*parts))
                self.assertTrue(Machine(*FIVE) != Machine(*parts))
                parts[place] = ()
                self.assertFalse(Machine(*FIVE) == Machine(*parts))

    def test_what_is_no_machine_is_not_equal(self):
        class Likeness:
            def __init__(self):
                self.names, self.clocks, self.channels, self.states, self.rules = FIVE

        for other in (None, 0, "", FIVE, list(FIVE), Likeness()):
            self.assertFalse(Machine(*FIVE) == other)
            self.assertTrue(Machine(*FIVE) != other)

    def test_it_checks_nothing(self):
        Machine(("tick", "tick"), ("t",) * 9, (("c", ()),), (), ((5, "q", 7, ((8, "under", 99),), (9,), ()),))


class CapsAndStartTest(unittest.TestCase):
    def test_the_cap_is_the_greatest_limit_of_any_condition(self):
        machine = machine_with(
            leads("m", 1, (0, "under", 3), (1, "from", 7)),
            leads("n", 1, (0, "from", 5), state=2),
            leads("tick", 1, (0, "under", 4), (1, "under", 2), state=1),
            clocks=("t", "u", "v"),
        )
        self.assertEqual(caps(machine), (5, 7, 0))
        self.assertIs(caps(machine).__class__, tuple)

    def test_conditions_of_bans_count(self):
        machine = machine_with(leads("m", 1, (0, "under", 3)), ban("n", (0, "from", 9)), channels=())
        self.assertEqual(caps(machine), (9,))

    def test_caps_without_conditions_and_without_clocks(self):
        self.assertEqual(caps(machine_with(leads("m", 1, resets=(0,)), clocks=("t", "u"))), (0, 0))
        self.assertEqual(caps(machine_with(leads("m", 1), clocks=())), ())

    def test_the_start_is_the_first_state_with_all_clocks_at_0(self):
        self.assertEqual(start(machine_with(clocks=("t", "u", "v"))), (0, (0, 0, 0)))
        self.assertEqual(start(machine_with(clocks=())), (0, ()))
        configuration = start(machine_with())
        self.assertIs(configuration.__class__, tuple)
        self.assertIs(configuration[1].__class__, tuple)


class ConditionsTest(unittest.TestCase):
    def test_under_below_at_and_behind_the_limit(self):
        machine = machine_with(leads("m", 1, (0, "under", 3)), leads("n", 2, (0, "from", 9)))
        found = [step(machine, (0, (value,)), "m")[0][0] for value in (0, 2, 3, 4, 9)]
        self.assertEqual(found, [1, 1, 0, 0, 0])

    def test_from_below_at_and_behind_the_limit(self):
        machine = machine_with(leads("m", 1, (0, "from", 3)), leads("n", 2, (0, "from", 9)))
        found = [step(machine, (0, (value,)), "m")[0][0] for value in (0, 2, 3, 4, 9)]
        self.assertEqual(found, [0, 0, 1, 1, 1])

    def test_a_tick_increases_the_clock_before_conditions_are_compared(self):
        machine = machine_with(leads("tick", 1, (0, "under", 3)), leads("tick", 2, (0, "from", 4)))
        found = [step(machine, (0, (value,)), "tick")[0] for value in (0, 1, 2, 3, 4)]
        self.assertEqual(found, [(1, (1,)), (1, (2,)), (0, (3,)), (2, (4,)), (2, (4,))])

    def test_all_conditions_must_hold(self):
        machine = machine_with(
            leads("m", 1, (0, "from", 2), (1, "under", 2), (2, "from", 1)), clocks=("t", "u", "v")
        )
        for values, state in (((2, 1, 1), 1), ((1, 1, 1), 0), ((2, 2, 1), 0), ((2, 1, 0), 0)):
            self.assertEqual(step(machine, (0, values), "m"), ((state, values), ()))

    def test_a_clock_compared_twice(self):
        machine = machine_with(leads("m", 1, (0, "from", 2), (0, "under", 4)), leads("n", 2, (0, "from", 9)))
        found = [step(machine, (0, (value,)), "m")[0][0] for value in (1, 2, 3, 4)]
        self.assertEqual(found, [0, 1, 1, 0])

    def test_a_condition_compares_its_own_clock(self):
        machine = machine_with(leads("m", 1, (1, "from", 5)), leads("n", 1, (0, "from", 9)), clocks=("t", "u"))
        self.assertEqual(step(machine, (0, (0, 5)), "m")[0], (1, (0, 5)))
        self.assertEqual(step(machine, (0, (5, 0)), "m")[0][0], 0)


class StepTest(unittest.TestCase):
    def test_a_rule_that_is_followed(self):
        machine = machine_with(
            leads("m", 1, resets=(1,), signals=((1, "z"), (0, "y"), (1, "z"))),
            leads("n", 2, (0, "from", 5), (1, "from", 5), (2, "from", 5)),
            clocks=("t", "u", "v"),
        )
        expected = ((1, (3, 0, 4)), ((1, "z"), (0, "y"), (1, "z")))
        self.assertEqual(step(machine, (0, (3, 2, 4)), "m"), expected)

    def test_the_first_rule_that_applies_is_followed(self):
        machine = machine_with(
            leads("m", 2, (0, "from", 2), signals=((0, "x"),)),
            leads("m", 1, signals=((0, "y"),)),
            leads("m", 0, signals=((1, "z"),)),
        )
        self.assertEqual(step(machine, (0, (1,)), "m"), ((1, (1,)), ((0, "y"),)))
        self.assertEqual(step(machine, (0, (2,)), "m"), ((2, (2,)), ((0, "x"),)))

    def test_a_rule_is_for_its_state_and_its_item(self):
        machine = machine_with(
            leads("m", 1, state=1, signals=((0, "x"),)),
            leads("n", 1, signals=((0, "x"),)),
            leads("tick", 1, signals=((0, "x"),)),
            leads("m", 2, signals=((0, "y"),)),
            clocks=(),
        )
        self.assertEqual(step(machine, (0, ()), "m"), ((2, ()), ((0, "y"),)))
        self.assertEqual(step(machine, (1, ()), "m"), ((1, ()), ((0, "x"),)))
        self.assertEqual(step(machine, (0, ()), "tick"), ((1, ()), ((0, "x"),)))

    def test_no_rule_applies(self):
        machine = machine_with(
            leads("m", 1, (0, "from", 3), resets=(0,), signals=((0, "x"),)), leads("n", 1, state=2)
        )
        self.assertEqual(step(machine, (0, (2,)), "m"), ((0, (2,)), ()))
        self.assertEqual(step(machine, (0, (2,)), "n"), ((0, (2,)), ()))
        self.assertEqual(step(machine, (1, (1,)), "tick"), ((1, (2,)), ()))
        self.assertEqual(step(machine, (1, (1,)), "other"), ((1, (1,)), ()))

    def test_resets(self):
        machine = machine_with(
            leads("m", 0, resets=(1, 1, 0)),
            leads("tick", 0, resets=(2,)),
            leads("n", 0, (0, "from", 9), (1, "from", 9), (2, "from", 9)),
            clocks=("t", "u", "v"),
        )
        self.assertEqual(step(machine, (0, (4, 5, 6)), "m")[0], (0, (0, 0, 6)))
        self.assertEqual(step(machine, (0, (4, 5, 6)), "tick")[0], (0, (5, 6, 0)))

    def test_messages_do_not_move_clocks_and_a_tick_moves_all(self):
        machine = machine_with(
            leads("m", 1), leads("n", 0, (0, "from", 9), (1, "under", 9)), clocks=("t", "u")
        )
        self.assertEqual(step(machine, (0, (3, 4)), "m")[0], (1, (3, 4)))
        self.assertEqual(step(machine, (0, (3, 4)), "tick")[0], (0, (4, 5)))

    def test_a_clock_stays_at_its_cap(self):
        machine = machine_with(leads("m", 1, (0, "from", 2), (1, "under", 4)), clocks=("t", "u", "free"))
        configuration = start(machine)
        found = []
        for _ in range(6):
            configuration, signals = step(machine, configuration, "tick")
            found.append(configuration)
            self.assertEqual(signals, ())
        values = [(1, 1, 0), (2, 2, 0), (2, 3, 0), (2, 4, 0), (2, 4, 0), (2, 4, 0)]
        self.assertEqual(found, [(0, value) for value in values])

    def test_results_are_tuples(self):
        machine = machine_with(leads("m", 1, resets=(0,), signals=((0, "x"),)))
        for item in ("m", "n", "tick"):
            configuration, signals = step(machine, [0, [0]], item)
            for part in (step(machine, (0, (0,)), item), configuration, configuration[1], signals):
                self.assertIs(part.__class__, tuple)

    def test_a_forbidden_item(self):
        machine = machine_with(
            ban("m"), leads("m", 1, (0, "under", 9), resets=(0,)), ban("tick"), leads("tick", 1), channels=()
        )
        self.assertEqual(step(machine, (0, (4,)), "m"), ((0, (4,)), ()))
        self.assertEqual(step(machine, (0, (4,)), "tick"), ((0, (5,)), ()))
        self.assertEqual(step(machine, (0, (9,)), "tick"), ((0, (9,)), ()))


class ForbidsTest(unittest.TestCase):
    def test_the_first_rule_or_ban_that_applies_decides(self):
        machine = machine_with(ban("m"), leads("m", 1), leads("n", 1), ban("n"), channels=())
        self.assertIs(forbids(machine, (0, (0,)), "m"), True)
        self.assertIs(forbids(machine, (0, (0,)), "n"), False)

    def test_a_rule_in_front_that_does_not_apply_does_not_decide(self):
        machine = machine_with(leads("m", 1, (0, "from", 2)), ban("m"), channels=())
        self.assertIs(forbids(machine, (0, (1,)), "m"), True)
        self.assertIs(forbids(machine, (0, (2,)), "m"), False)

    def test_a_ban_is_for_its_state_and_its_item(self):
        machine = machine_with(ban("m", state=1), clocks=(), channels=())
        self.assertIs(forbids(machine, (1, ()), "m"), True)
        for configuration, item in (((0, ()), "m"), ((1, ()), "n"), ((1, ()), "tick")):
            self.assertIs(forbids(machine, configuration, item), False)

    def test_the_conditions_of_a_ban(self):
        machine = machine_with(ban("m", (0, "under", 3)), ban("n", (0, "from", 3)), channels=())
        self.assertEqual([forbids(machine, (0, (k,)), "m") for k in (0, 2, 3)], [True, True, False])
        self.assertEqual([forbids(machine, (0, (k,)), "n") for k in (0, 2, 3)], [False, False, True])

    def test_the_clocks_have_increased_when_a_tick_is_asked_about(self):
        machine = machine_with(ban("tick", (0, "from", 3)), channels=())
        self.assertEqual([forbids(machine, (0, (k,)), "tick") for k in (0, 1, 2, 3)], [False, False, True, True])
        machine = machine_with(ban("tick", (0, "under", 3)), channels=())
        self.assertEqual([forbids(machine, (0, (k,)), "tick") for k in (0, 1, 2, 3)], [True, True, False, False])

    def test_nothing_is_forbidden_without_bans(self):
        machine = machine_with(leads("m", 1))
        for item in ("m", "n", "tick", "other"):
            self.assertIs(forbids(machine, (0, (0,)), item), False)

    def test_lists_in_a_configuration(self):
        machine = machine_with(ban("tick", (0, "from", 3)), channels=())
        self.assertIs(forbids(machine, [0, [2]], "tick"), True)
        self.assertIs(forbids(machine, [0, [1]], "tick"), False)


class RunTest(unittest.TestCase):
    def test_signals_stand_in_their_order_for_each_channel(self):
        machine = machine_with(
            leads("m", 1, signals=((1, "z"), (0, "y"), (0, "x"), (1, "z"))),
            leads("n", 0, state=1, signals=((0, "x"),)),
            clocks=(),
        )
        self.assertEqual(run(machine, ["m", "n", "n", "m"]), ((1, ()), [["y", "x", "x", "y", "x"], ["z"] * 4]))

    def test_nothing_is_heard_or_written(self):
        self.assertEqual(run(machine_with(), []), ((0, (0,)), [[], []]))
        self.assertEqual(run(machine_with(), ("m", "tick")), ((0, (0,)), [[], []]))
        self.assertEqual(run(machine_with(clocks=(), channels=()), ["m", "tick"]), ((0, ()), []))

    def test_clocks_run_between_messages(self):
        machine = machine_with(
            leads("m", 0, (0, "from", 2), resets=(0,), signals=((0, "x"),)), leads("m", 0, signals=((0, "y"),))
        )
        items = ["tick", "m", "tick", "m", "tick", "m", "tick", "tick", "tick", "m"]
        self.assertEqual(run(machine, items), ((0, (0,)), [["y", "x", "y", "x"], []]))

    def test_nothing_is_forbidden(self):
        machine = machine_with(
            ban("m"), ban("tick", (0, "from", 2)), leads("tick", 1, (0, "from", 3)), leads("n", 2), channels=()
        )
        self.assertEqual(run(machine, ["m", "tick", "m", "tick"]), ((0, (2,)), []))
        self.assertEqual(run(machine, ["m", "tick", "tick", "n"]), ((2, (2,)), []))

    def test_kinds_of_the_result(self):
        found = run(machine_with(), ["m"])
        self.assertIs(found.__class__, tuple)
        self.assertIs(found[0].__class__, tuple)
        self.assertEqual([part.__class__ for part in [found[1], *found[1]]], [list] * 3)


class PermittedTest(unittest.TestCase):
    def setUp(self):
        self.turns = machine_with(
            leads("m", 1),
            ban("n"),
            leads("n", 0, state=1, resets=(0,)),
            ban("m", state=1),
            ban("tick", (0, "from", 3), state=1),
            channels=(),
        )

    def test_a_sequence_is_permitted_if_no_item_is_forbidden_where_it_comes(self):
        for items in ([], ["m"], ["m", "n", "m"], ["tick", "tick", "m", "n", "tick"]):
            self.assertIs(permitted(self.turns, items), True)
        for items in (["n"], ["m", "m"], ["n", "m"], ["m", "n", "n"], ["m", "n", "m", "m", "n"]):
            self.assertIs(permitted(self.turns, items), False)

    def test_ticks(self):
        self.assertIs(permitted(self.turns, ["m", "tick", "tick"]), True)
        self.assertIs(permitted(self.turns, ["m", "tick", "tick", "tick"]), False)
        self.assertIs(permitted(self.turns, ["tick", "tick", "m", "tick"]), False)
        self.assertIs(permitted(self.turns, ["tick", "tick", "m", "n", "m", "tick"]), True)
        self.assertIs(permitted(self.turns, ["tick"] * 9), True)

    def test_everything_is_permitted_without_bans(self):
        self.assertIs(permitted(machine_with(leads("m", 1)), ["m", "n", "tick", "other"]), True)

    def test_lists_and_tuples(self):
        for items in (["m", "n"], ["m", "m"]):
            self.assertIs(permitted(self.turns, tuple(items)), permitted(self.turns, items))


class NothingIsModifiedTest(unittest.TestCase):
    def setUp(self):
        self.machine = machine_with(
            leads("m", 1, (0, "under", 4), resets=(0,), signals=((0, "x"), (1, "z"))),
            leads("n", 0, state=1, signals=((0, "y"),)),
        )

    def test_arguments_stay_as_they_were(self):
        before = copy.deepcopy(self.machine)
        items = ["m", "n", "tick", "tick", "tick", "m"]
        configuration = [0, [2]]
        run(self.machine, items)
        permitted(self.machine, items)
        for item in items:
            step(self.machine, configuration, item)
            forbids(self.machine, configuration, item)
        self.assertEqual(items, ["m", "n", "tick", "tick", "tick", "m"])
        self.assertEqual(configuration, [0, [2]])
        self.assertEqual(self.machine, before)

    def test_what_was_returned_stays_as_it_was(self):
        first = run(self.machine, ["m"])
        kept = copy.deepcopy(first)
        one = step(self.machine, (0, (2,)), "m")
        run(self.machine, ["m", "n", "m"])
        step(self.machine, one[0], "tick")
        self.assertEqual(first, kept)
        self.assertEqual(one, ((1, (0,)), ((0, "x"), (1, "z"))))
        first[1][0].append("more")
        self.assertEqual(run(self.machine, ["m"]), kept)

    def test_lists_and_tuples_of_items(self):
        items = ["m", "tick", "n", "tick"]
        self.assertEqual(run(self.machine, tuple(items)), run(self.machine, items))


if __name__ == "__main__":
    unittest.main()
