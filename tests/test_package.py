"""What holds for the whole program (points 1 and 2, and the interface)."""

import ast
import copy
import importlib
import inspect
import pathlib
import unittest

from examples import LAMP, TURNS, case_of, lamp_case
from latecoming import cases, certificates, deliveries, greatest, machines, monitors, receivers, search, texts
from latecoming.cases import Case, Delays

# It shows whether a message comes after a tick.
SLOW = "hears a\nclocks t\nchannel c x\nstate s\nrule s a s when t from 1 emit c x"

PACKAGE = pathlib.Path(__file__).resolve().parent.parent / "latecoming"

INTERFACE = {
    "errors": (
        "LateError", "TextError", "Malformed", "Misplaced", "TooMany", "Repeated", "Unknown", "InvalidCase",
        "InvalidDelays", "TooLarge", "MonitorFull", "UnknownMessage", "JournalError", "Changed", "Impossible",
    ),
    "machines": ("Machine", "caps", "start", "forbids", "step", "run", "permitted"),
    "texts": ("parse_machine", "format_machine"),
    "cases": ("Case", "Delays", "looks_same", "difference", "extended"),
    "deliveries": (
        "first_scene", "possible_events", "scene_after", "is_delivery", "sequences", "is_complete", "is_harmful",
    ),
    "search": ("first_harm", "kept_scenes"),
    "greatest": ("greatest_lateness", "greatest_losses", "greatest_doubles"),
    "receivers": ("first_polling_harm", "first_holding_harm", "heard_by_polling", "heard_by_holding"),
    "certificates": ("certificate", "accepts"),
    "monitors": ("Monitor", "replay"),
}


def listed(value):
    return [listed(part) for part in value] if isinstance(value, (list, tuple)) else value


def tupled(value):
    return tuple(tupled(part) for part in value) if isinstance(value, (list, tuple)) else value


def all_calls():
    """Returns functions of the interface, each with arguments that have tuples or lists."""
    case, delays = lamp_case(quiet=2), Delays(["on", "off"], [2, 0], ["off"], ["on"])
    program = case.program
    scene = (None, ((0, 0), (0, 1)), (1, ()), (0, ()), ((("lit",), ("dark",)),))
    sent = (("sent", "on", "once"), ("came", "on", 1), ("stopped",))
    free = Delays(["on", "off"], [0, 0])
    slow = case_of(SLOW, "hears a\nstate x\nban x tick", "ordered")
    monitor = monitors.Monitor(case, delays)
    monitor.sent("on")
    return [
        (machines.forbids, case.traffic, (0, ()), "off"),
        (machines.step, program, (0, ()), "on"),
        (machines.run, program, ("on", "tick", "off")),
        (machines.permitted, case.traffic, ("on", "tick", "off")),
        (texts.format_machine, program),
        (cases.looks_same, "unordered", ("x", "y"), ("y", "x")),
        (cases.difference, "ordered", ("x", "y"), ("x", "y"), ("x",)),
        (cases.extended, "unordered", ("x", "y"), (("y",), ()), ("x",), ("y",)),
        (deliveries.possible_events, case, delays, scene),
        (deliveries.scene_after, case, delays, scene, ("came", "on", 0)),
        (deliveries.is_delivery, case, delays, sent),
        (deliveries.sequences, case, delays, sent),
        (deliveries.is_complete, scene),
        (deliveries.is_harmful, case, (None, (), *scene[2:])),
        (search.first_harm, case, delays),
        (search.kept_scenes, case, free),
        (greatest.greatest_lateness, case, 1, (), ()),
        (greatest.greatest_losses, case, (0, 0), ("on",)),
        (greatest.greatest_doubles, case, (0, 0), ("off",)),
        (receivers.first_polling_harm, slow, 2, 0),
        (receivers.first_holding_harm, slow, 2),
        (receivers.heard_by_polling, ("on", "tick", "off"), 2),
        (receivers.heard_by_holding, ("on", "tick", "off"), 2),
        (certificates.certificate, case, free),
        (certificates.accepts, case, free, certificates.certificate(case, free)),
        (certificates.accepts, case, delays, ("delivery", (("sent", "off", "lost"),))),
        (monitors.replay, case, delays, monitor.journal()),
    ]


def told(value):
    """Returns what can be compared of a result."""
    return value.journal() if isinstance(value, monitors.Monitor) else copy.deepcopy(value)


class ArgumentsTest(unittest.TestCase):
    def test_lists_and_tuples_in_the_place_of_each_other(self):
        for function, *arguments in all_calls():
            expected = told(function(*arguments))
            for change in (listed, tupled):
                with self.subTest(function.__name__):
                    changed = [change(argument) for argument in arguments]
                    self.assertEqual(told(function(*changed)), expected)

    def test_machines_and_delays_of_lists(self):
        found = Case(texts.parse_machine(LAMP), ("ordered",), texts.parse_machine(TURNS, traffic=True))
        self.assertEqual(found.views, Case(found.program, ["ordered"], found.traffic).views)
        first, second = Delays(["a", "b"], [1, 2], ["a"], ["b"]), Delays(("a", "b"), (1, 2), ("a",), ("b",))
        self.assertEqual(vars(first), vars(second))

    def test_arguments_are_not_modified(self):
        for function, *arguments in all_calls():
            for change in (listed, tupled):
                changed = [change(argument) for argument in arguments]
                before = copy.deepcopy([contents(argument) for argument in changed])
                function(*changed)
                self.assertEqual([contents(argument) for argument in changed], before, function.__name__)

    def test_what_is_returned_is_not_changed_by_later_calls(self):
        calls = all_calls()
        found = [function(*arguments) for function, *arguments in calls]
        before = [told(value) for value in found]
        for function, *arguments in calls:
            function(*arguments)
        self.assertEqual([told(value) for value in found], before)

    def test_changing_what_is_returned_changes_no_later_call(self):
        for function, *arguments in all_calls():
            found = function(*arguments)
            before = told(found)
            for part in (found, *(found if isinstance(found, tuple) else ())):
                if isinstance(part, list):
                    part.append("more")
            self.assertEqual(told(function(*arguments)), before, function.__name__)


def contents(value):
    """Returns the attributes of an object, or the value itself."""
    return vars(value) if hasattr(value, "__dict__") else value


class PackageTest(unittest.TestCase):
    def trees(self):
        return [ast.parse(path.read_text(encoding="utf-8")) for path in sorted(PACKAGE.glob("*.py"))]

    def test_only_modules_of_the_package_are_imported(self):
        for tree in self.trees():
            for node in ast.walk(tree):
                self.assertNotIsInstance(node, ast.Import)
                if isinstance(node, ast.ImportFrom):
                    self.assertEqual(node.level, 0)
                    self.assertTrue(node.module.startswith("latecoming."), node.module)

    def test_nothing_is_read_or_printed(self):
        for tree in self.trees():
            names = {node.id for node in ast.walk(tree) if isinstance(node, ast.Name)}
            self.assertEqual(names & {"open", "print", "input", "exec", "eval", "globals", "__import__"}, set())

    def test_the_folder_has_nothing_but_the_program(self):
        files = {path.name for path in PACKAGE.iterdir() if path.name != "__pycache__"}
        self.assertEqual({name for name in files if not name.endswith(".py")}, set())
        self.assertLessEqual({"__init__.py", *(f"{name}.py" for name in INTERFACE)}, files)

    def test_each_name_is_defined_in_its_file(self):
        for module, names in INTERFACE.items():
            found = importlib.import_module(f"latecoming.{module}")
            tree = ast.parse(inspect.getsource(found))
            defined = [node.name for node in tree.body if isinstance(node, (ast.ClassDef, ast.FunctionDef))]
            for name in names:
                self.assertIn(name, defined)
                self.assertEqual(getattr(found, name).__module__, f"latecoming.{module}")


if __name__ == "__main__":
    unittest.main()
