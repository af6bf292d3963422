"""Monitors and their journals (points 28 to 34)."""

import copy
import inspect
import random
import unittest

import brute
from brute_monitors import Watch, journal_of
from examples import case_of, chosen_case, delays, echo_case, lamp_case
from latecoming import monitors
from latecoming.cases import Delays
from latecoming.errors import Changed, Impossible, JournalError, LateError, MonitorFull, UnknownMessage
from latecoming.monitors import Monitor, replay


def tell(monitor, text):
    """Tells a monitor what is observed: `sent a, came a, tick` and so on; returns the last answer."""
    answer = None
    for words in [part.split() for part in text.split(",") if part.strip()]:
        answer = getattr(monitor, words[0])(*words[1:])
    return answer


def kept_by(monitor):
    """Returns all that a monitor tells of itself."""
    return monitor.in_transit(), monitor.journal(), monitor.observations, monitor.is_closed


class MonitorCase(unittest.TestCase):
    def assert_tells(self, case, late, text, answers):
        """Each observation returns its answer; the others return `ok`."""
        monitor = Monitor(case, late)
        observed = [part.strip() for part in text.split(",")]
        answers = answers.split()
        for at, part in enumerate(observed):
            expected = (["ok"] * (len(observed) - len(answers)) + answers)[at]
            before = kept_by(monitor)
            self.assertEqual(tell(monitor, part), expected, f"{at}: {part}")
            if expected != "ok":
                self.assertEqual(kept_by(monitor)[:3], before[:3])
            self.assertIs(monitor.is_closed, expected != "ok")
        self.assertEqual(monitor.observations, (["ok"] * (len(observed) - len(answers)) + answers).count("ok"))
        return monitor

    def assert_all(self, case, late, *rows):
        """Each row is a list of observations, of which the last one returns what stands behind the colon."""
        for row in rows:
            text, answer = row.split(":")
            self.assert_tells(case, late, text, answer)


class BeginningTest(MonitorCase):
    def test_a_new_monitor(self):
        for case, late in ((echo_case(), delays([3, 0], lost="a", twice="b")), (echo_case(), delays([0, 9]))):
            monitor = Monitor(case, late)
            self.assertEqual(kept_by(monitor), ([(0, 0), (0, 0)], "", 0, False))

    def test_nothing_may_come_at_the_beginning(self):
        for late in ([0, 0], [1, 9]):
            self.assert_all(echo_case(), delays(late, lost="a", twice="b"), "came a: impossible", "came b: impossible")


class WaitsTest(MonitorCase):
    def test_lateness_1_comes_before_the_next_tick(self):
        self.assert_all(
            echo_case(), delays([1, 1]),
            "sent a, came a, tick: ok", "sent a, tick: impossible", "sent a, came b: impossible",
            "sent a, sent b, came b, came a, tick: ok", "sent a, sent b, came b, tick: impossible",
            "sent a, sent a, came a, tick: impossible", "sent a, sent a, came a, came a, came a: impossible",
        )

    def test_lateness_n_waits_for_n_minus_1_ticks(self):
        for lateness in range(1, 10):
            ticks = "sent a" + ", tick" * (lateness - 1)
            self.assert_all(echo_case(), delays([lateness, 1]), f"{ticks}, came a: ok", f"{ticks}, tick: impossible")
            self.assert_all(echo_case(), delays([lateness, 0]), f"{ticks}, sent a, came a, came a, tick: ok")

    def test_which_of_two_came_is_not_known(self):
        # One was sent before the tick. If it is the one that came, the other one may wait.
        self.assert_all(
            echo_case(), delays([2, 1]),
            "sent a, tick, sent a, came a, tick, came a: ok", "sent a, tick, sent a, came a, tick, tick: impossible",
            "sent a, tick, sent a, tick: impossible", "sent a, tick, sent a, came a, came a, tick: ok",
        )

    def test_equal_possibilities_are_kept_once(self):
        # Whichever of the equal ones came: else there would be 2 ** 30 possibilities.
        monitor = Monitor(echo_case(), delays([9, 9]))
        for part in ["sent a"] * 60 + ["came a"] * 30:
            self.assertEqual(tell(monitor, part), "ok")
        self.assertEqual(monitor.in_transit(), [(30, 30), (0, 0)])

    def test_names_in_the_order_of_the_case(self):
        case = case_of("hears b a c\nstate s", "hears b a c\nstate x")
        late = Delays(["b", "a", "c"], [1, 2, 0], ["c"], ["a"])
        monitor = self.assert_tells(case, late, "sent b, sent a, sent c", "ok")
        self.assertEqual(monitor.in_transit(), [(1, 1), (1, 2), (0, 1)])
        self.assertEqual(self.assert_tells(case, late, "sent a, sent b, came b, tick", "ok").in_transit()[1], (1, 2))


class LatenessZeroTest(MonitorCase):
    def test_it_comes_before_anything_else(self):
        self.assert_all(
            echo_case(), delays([0, 0]),
            "sent a, came a: ok", "sent a, tick: impossible", "sent a, sent a: impossible", "sent a, sent b: impossible",
            "sent a, came b: impossible", "sent a, came a, tick: ok", "sent a, came a, sent b: ok",
            "sent a, came a, came a: impossible",
        )

    def test_what_waits_may_not_come_meanwhile(self):
        late = delays([0, 3])
        self.assert_all(
            echo_case(), late,
            "sent b, sent a, came b: impossible", "sent b, sent a, came a, came b: ok",
            "sent b, tick, sent a, tick: impossible", "sent b, tick, sent a, came a, tick: ok",
            "sent b, sent a, sent b: impossible",
        )

    def test_it_counts_as_in_transit(self):
        monitor = self.assert_tells(echo_case(), delays([0, 3]), "sent a", "ok")
        self.assertEqual(monitor.in_transit(), [(1, 1), (0, 0)])
        tell(monitor, "came a")
        self.assertEqual(monitor.in_transit(), [(0, 0), (0, 0)])

    def test_it_may_be_lost(self):
        late = delays([0, 2], lost="a")
        self.assert_all(
            echo_case(), late,
            "sent a, tick: ok", "sent a, sent a: ok", "sent a, sent b, came b: ok", "sent a, came a: ok",
            "sent a, tick, came a: impossible", "sent a, sent b, came a: impossible",
            "sent a, sent a, came a, came a: impossible", "sent b, sent a, came b, came a: impossible",
        )
        monitor = self.assert_tells(echo_case(), late, "sent a", "ok")
        self.assertEqual(monitor.in_transit(), [(0, 1), (0, 0)])
        # The tick tells that it was lost.
        tell(monitor, "tick")
        self.assertEqual(monitor.in_transit(), [(0, 0), (0, 0)])

    def test_it_may_come_twice(self):
        late = delays([0, 2], twice="a")
        self.assert_all(
            echo_case(), late,
            "sent a, came a, tick: ok", "sent a, came a, came a, tick: ok", "sent a, came a, came a, came a: impossible",
            "sent a, tick: impossible", "sent a, came a, tick, came a: impossible",
            "sent b, sent a, came a, came b, came a: impossible", "sent b, sent a, came a, came a, came b: ok",
            "sent a, came a, sent a, came a, came a, tick: ok",
        )
        monitor = self.assert_tells(echo_case(), late, "sent a", "ok")
        self.assertEqual(monitor.in_transit(), [(1, 2), (0, 0)])
        tell(monitor, "came a")
        self.assertEqual(monitor.in_transit(), [(0, 1), (0, 0)])
        tell(monitor, "sent b")
        self.assertEqual(monitor.in_transit(), [(0, 0), (1, 1)])


class FatesTest(MonitorCase):
    def test_what_may_be_lost(self):
        late = delays([2, 1], lost="a")
        self.assert_all(
            echo_case(), late,
            "sent a, tick, tick: ok", "sent a, tick, came a, tick: ok", "sent a, tick, tick, came a: impossible",
            "sent b, tick: impossible", "sent a, sent a, came a, came a, came a: impossible",
        )
        monitor = self.assert_tells(echo_case(), late, "sent a, sent a, tick", "ok")
        self.assertEqual(monitor.in_transit(), [(0, 2), (0, 0)])
        tell(monitor, "came a")
        self.assertEqual(monitor.in_transit(), [(0, 1), (0, 0)])
        tell(monitor, "tick")
        self.assertEqual(monitor.in_transit(), [(0, 0), (0, 0)])

    def test_what_may_come_twice(self):
        late = delays([2, 1], twice="a")
        self.assert_all(
            echo_case(), late,
            "sent a, came a, tick, came a: ok", "sent a, came a, tick, tick: ok", "sent a, tick, tick: impossible",
            "sent a, came a, came a, came a: impossible", "sent b, came b, came b: impossible",
        )
        self.assertEqual(self.assert_tells(echo_case(), late, "sent a, sent a", "ok").in_transit(), [(2, 4), (0, 0)])

    def test_what_may_be_lost_or_come_twice(self):
        late = delays([2, 1], lost="ab", twice="ab")
        monitor = self.assert_tells(echo_case(), late, "sent a, sent b, sent a", "ok")
        self.assertEqual(monitor.in_transit(), [(0, 4), (0, 2)])
        tell(monitor, "came a, tick")
        self.assertEqual(monitor.in_transit(), [(0, 3), (0, 0)])
        self.assertEqual(tell(monitor, "came b"), "impossible")
        self.assertEqual(monitor.in_transit(), [(0, 3), (0, 0)])


class TrafficTest(MonitorCase):
    def test_forbidden_names_and_ticks(self):
        late = Delays(["on", "off"], [2, 0])
        self.assert_tells(lamp_case(), late, "sent off", "forbidden")
        self.assert_tells(lamp_case(), late, "sent on, sent on", "forbidden")
        self.assert_tells(lamp_case(), late, "sent on, tick, sent off, came off, sent off", "forbidden")
        self.assert_tells(echo_case("\nban s tick"), delays([1, 1]), "sent a, came a, tick", "forbidden")
        self.assert_tells(echo_case("\nban s tick\nban s a"), delays([1, 1]), "sent b, came b, sent a", "forbidden")

    def test_what_comes_is_never_forbidden_and_not_heard(self):
        traffic = "\nstate t\nrule s a t\nban t a\nban t b"
        self.assert_tells(echo_case(traffic), delays([2, 2]), "sent a, came a, tick, sent b", "forbidden")
        traffic = "\nstate t\nstate u\nrule s a t\nrule t a u\nban t b\nban u a\nban u b"
        self.assert_tells(echo_case(traffic), delays([2, 2]), "sent a, came a, sent a, came a", "ok")
        self.assert_tells(echo_case(traffic), delays([2, 2]), "sent a, came a, sent a, came a, sent a", "forbidden")

    def test_traffic_hears_ticks(self):
        case = case_of("hears a b\nstate s", "hears a b\nclocks t\nstate x\nban x a when t under 2\nban x tick when t from 4")
        late = delays([0, 0])
        self.assert_tells(case, late, "tick, sent a", "forbidden")
        self.assert_tells(case, late, "tick, tick, sent a, came a, tick", "ok")
        self.assert_tells(case, late, "tick, tick, tick, tick", "forbidden")

    def test_traffic_is_asked_first(self):
        self.assert_tells(echo_case("\nban s tick"), delays([1, 0]), "sent a, tick", "forbidden")
        self.assert_tells(echo_case("\nstate t\nrule s a t\nban t b"), delays([0, 0]), "sent a, sent b", "forbidden")
        self.assert_tells(echo_case("\nstate t\nrule s a t\nban t b"), delays([0, 0]), "sent a, sent a", "impossible")


class ClosedTest(MonitorCase):
    def test_a_closed_monitor_keeps_what_it_had(self):
        late = delays([2, 0], lost="a")
        for text in ("sent a, tick, came b", "sent a, tick, sent b, tick", "sent a, tick, came a, came a"):
            closed = "closed " * 6
            later = ", tick, sent a, sent b, came a, came b, tick"
            monitor = self.assert_tells(echo_case(), late, text + later, "impossible " + closed)
            ahead = Monitor(echo_case(), late)
            tell(ahead, text.rpartition(",")[0])
            self.assertEqual(kept_by(monitor)[:3], kept_by(ahead)[:3])
            self.assertIs(monitor.is_closed, True)
            self.assertIs(ahead.is_closed, False)

    def test_closed_by_what_is_forbidden(self):
        case = echo_case("\nban s b")
        monitor = self.assert_tells(case, delays([1, 1]), "sent a, sent b, came a, tick, sent b", "forbidden closed closed closed")
        self.assertEqual(kept_by(monitor), ([(1, 1), (0, 0)], journal_of(["sent a"]), 1, True))

    def test_a_message_of_another_name_is_unknown_to_it_too(self):
        for text, answer in (("sent a", "ok"), ("came a", "impossible"), ("sent b", "forbidden")):
            monitor = Monitor(echo_case("\nban s b"), delays([1, 1]))
            self.assertEqual(tell(monitor, text), answer)
            before = kept_by(monitor)
            for name in ("c", "tick", "", "aa", "A", "a ", "ab", "sent", None, 0):
                for observe in (monitor.sent, monitor.came):
                    with self.assertRaises(UnknownMessage) as caught:
                        observe(name)
                    self.assertEqual(caught.exception.name, name)
                    self.assertIsInstance(caught.exception, LateError)
            self.assertEqual(kept_by(monitor), before)


class FullTest(MonitorCase):
    def assert_full(self, monitor, text):
        before = kept_by(monitor)
        for _ in range(2):
            with self.assertRaises(MonitorFull):
                tell(monitor, text)
        self.assertEqual(kept_by(monitor), before)

    def test_500_and_501_possibilities(self):
        # After n of them, from n to 2n are in transit.
        monitor = Monitor(echo_case(), delays([1, 1], twice="a"))
        for _ in range(499):
            self.assertEqual(monitor.sent("a"), "ok")
        self.assertEqual(monitor.in_transit(), [(499, 998), (0, 0)])
        self.assert_full(monitor, "sent a")
        self.assertIs(monitor.is_closed, False)
        self.assertEqual(monitor.observations, 499)

    def test_more_than_501_possibilities(self):
        # After n of them, from 0 to 2n are in transit; then one more name doubles the possibilities.
        monitor = Monitor(echo_case(), delays([9, 0], lost="ab", twice="a"))
        for _ in range(249):
            self.assertEqual(monitor.sent("a"), "ok")
        self.assertEqual(monitor.in_transit(), [(0, 498), (0, 0)])
        self.assert_full(monitor, "sent b")
        self.assert_full(monitor, "sent a")
        self.assertEqual(monitor.came("a"), "ok")
        self.assert_full(monitor, "sent b")
        self.assertEqual(monitor.in_transit(), [(0, 497), (0, 0)])

    def test_what_else_may_happen_with_500_possibilities(self):
        late = delays([1, 1], twice="a")
        monitor = Monitor(echo_case(), late)
        tell(monitor, "sent a, " * 499)
        self.assert_full(monitor, "sent a")
        self.assertEqual(monitor.sent("b"), "ok")
        self.assertEqual(monitor.came("a"), "ok")
        self.assert_full(monitor, "sent a")
        self.assertEqual(monitor.came("b"), "ok")
        self.assertEqual(monitor.in_transit(), [(498, 997), (0, 0)])

    def test_possibilities_that_a_came_makes(self):
        # Messages of each wait: which one came is not known.
        late = delays([9, 9], twice="ab")
        monitor, watch = Monitor(echo_case(), late), Watch(echo_case(), late)
        answers = []
        for kind, name in [("sent", "a"), ("sent", "b"), ("tick", None)] * 4 + [("came", "a"), ("came", "b")] * 3:
            expected = watch.observe(kind, name)
            if expected == "full":
                self.assert_full(monitor, f"{kind} {name}")
            else:
                self.assertEqual(tell(monitor, f"{kind} {name}" if name else kind), expected)
            self.assertEqual(monitor.in_transit(), watch.in_transit())
            answers.append(expected)
        self.assertIn(("came", "full"), list(zip(["sent", "sent", "tick"] * 4 + ["came"] * 6, answers)))

    def test_forbidden_and_impossible_come_before_501(self):
        traffic = "hears a b\nclocks t\nstate x\nstate y\nrule x b y\nban y a"
        case = case_of("hears a b\nstate s", traffic)
        monitor = Monitor(case, delays([1, 1], twice="a"))
        tell(monitor, "sent a, " * 499)
        self.assert_full(monitor, "sent a")
        self.assertEqual(tell(monitor, "sent b"), "ok")
        self.assertEqual(tell(monitor, "sent a"), "forbidden")
        self.assertEqual(tell(monitor, "sent a"), "closed")

    def test_2000_observations(self):
        monitor = Monitor(echo_case(), delays([0, 0], twice="a"))
        for at in range(1000):
            self.assertEqual(monitor.sent("b"), "ok")
            self.assertEqual(monitor.observations, 2 * at + 1)
            self.assertEqual(monitor.came("b"), "ok")
        self.assertEqual(monitor.observations, 2000)
        for text in ("sent a", "sent b", "tick", "came a", "came b"):
            self.assert_full(monitor, text)
        self.assertEqual(len(monitor.journal().split("\n")), 2001)

    def test_2000_observations_come_before_forbidden_and_impossible(self):
        monitor = Monitor(echo_case("\nban s b"), delays([1, 1]))
        tell(monitor, "tick, " * 1999)
        self.assertEqual(monitor.sent("a"), "ok")
        for text in ("sent b", "tick", "came b", "came a"):
            self.assert_full(monitor, text)
        with self.assertRaises(UnknownMessage):
            monitor.sent("c")

    def test_the_last_observation_may_close(self):
        for text, answer in (("sent b", "forbidden"), ("came a", "impossible")):
            monitor = Monitor(echo_case("\nban s b"), delays([1, 1]))
            tell(monitor, "tick, " * 1999)
            self.assertEqual(tell(monitor, text), answer)
            self.assertEqual(tell(monitor, "tick"), "closed")
            self.assertEqual(monitor.observations, 1999)

    def test_what_returned_something_else_does_not_count(self):
        monitor = Monitor(echo_case(), delays([1, 1], twice="a"))
        tell(monitor, "sent a, " * 499)
        self.assert_full(monitor, "sent a")
        tell(monitor, "came a, " * 499)
        self.assertEqual(monitor.observations, 998)
        tell(monitor, "tick, " * 1002)
        self.assert_full(monitor, "tick")


class InTransitTest(MonitorCase):
    def test_a_new_list_of_tuples(self):
        monitor = self.assert_tells(echo_case(), delays([2, 2], lost="a"), "sent a, sent b", "ok")
        found = monitor.in_transit()
        self.assertIs(found.__class__, list)
        self.assertEqual([pair.__class__ for pair in found], [tuple, tuple])
        found.clear()
        self.assertEqual(monitor.in_transit(), [(0, 1), (1, 1)])
        kept = monitor.in_transit()
        tell(monitor, "sent a, sent b")
        self.assertEqual(kept, [(0, 1), (1, 1)])

    def test_least_and_greatest_of_each_name_by_itself(self):
        monitor = self.assert_tells(echo_case(), delays([2, 3], lost="a", twice="b"), "sent a, sent b, tick", "ok")
        self.assertEqual(monitor.in_transit(), [(0, 1), (1, 2)])
        tell(monitor, "came b")
        self.assertEqual(monitor.in_transit(), [(0, 1), (0, 1)])


class AgainstDefinitionsTest(MonitorCase):
    def test_chosen_observations(self):
        chance = random.Random(31)
        answers = []
        for _ in range(600):
            case, late = chosen_case(chance)
            monitor, watch = Monitor(case, late), Watch(case, late)
            for _ in range(chance.choice((5, 15, 40))):
                kind = chance.choice(("sent", "came", "came", "tick"))
                name = None if kind == "tick" else chance.choice(case.program.names)
                before = copy.deepcopy(kept_by(monitor))
                answers.append(watch.observe(kind, name))
                self.assert_answer(monitor, kind, name, answers[-1], before)
                self.assertEqual(kept_by(monitor), (watch.in_transit(), watch.journal(), len(watch.lines), watch.closed))
        for answer in ("ok", "forbidden", "impossible", "closed"):
            self.assertGreater(answers.count(answer), 100)

    def assert_answer(self, monitor, kind, name, expected, before):
        observe = getattr(monitor, kind)
        arguments = () if name is None else (name,)
        if expected != "full":
            self.assertEqual(observe(*arguments), expected)
            return
        with self.assertRaises(MonitorFull):
            observe(*arguments)
        self.assertEqual(kept_by(monitor), before)

    def test_what_can_be_observed_of_a_delivery_is_possible(self):
        chance = random.Random(32)
        seen = 0
        for _ in range(300):
            case, late = chosen_case(chance)
            history, monitor = brute.History(case, late), Monitor(case, late)
            for _ in range(10):
                events = [event for event in history.events_in_order() if event != ("stopped",)]
                if events == []:
                    break
                event = chance.choice(events)
                before = len(history.received)
                history = brute.History(case, late, history.events + [event])
                self.assertEqual(tell(monitor, " ".join(event[:2])), "ok")
                if event[0] == "sent":
                    for _ in history.received[before:]:
                        self.assertEqual(monitor.came(event[1]), "ok")
                many = [[name for name, _ in history.waiting].count(name) for name in case.program.names]
                for found, (least, greatest) in zip(many, monitor.in_transit()):
                    self.assertTrue(least <= found <= greatest)
                seen += 1
        self.assertGreater(seen, 1000)


class JournalTest(MonitorCase):
    def test_a_line_for_each_observation_that_returned_ok(self):
        late = delays([1, 0])
        monitor = self.assert_tells(echo_case(), late, "sent a, sent b, came b, came a, tick, came a", "impossible")
        lines = ["sent a", "sent b", "came b", "came a", "tick"]
        self.assertEqual(monitor.journal(), journal_of(lines))
        self.assertEqual([line.rpartition(" ")[0] for line in monitor.journal().split("\n")], [*lines, ""])

    def test_the_checksum_from_line_to_line(self):
        monitor = Monitor(echo_case(), delays([2, 0]))
        expected, checksum = "", 1
        for words in ("tick", "tick", "sent a", "tick", "came a", "sent b", "came b"):
            for character in words:
                checksum = (256 * checksum + ord(character)) % 65521
            expected += f"{words} {checksum}\n"
            self.assertEqual(tell(monitor, words), "ok")
            self.assertEqual(monitor.journal(), expected)

    def test_some_journals(self):
        for text, expected in (
            ("tick", "tick 14044\n"), ("sent a", "sent a 6261\n"), ("sent b", "sent b 6262\n"),
            ("tick, tick", "tick 14044\ntick 28711\n"), ("sent a, came a", "sent a 6261\ncame a 26728\n"),
        ):
            monitor = Monitor(echo_case(), delays([2, 2]))
            tell(monitor, text)
            self.assertEqual(monitor.journal(), expected)

    def test_what_changes_nothing_is_not_written(self):
        monitor = Monitor(echo_case("\nban s b"), delays([1, 1], twice="a"))
        tell(monitor, "sent a, " * 499)
        before = monitor.journal()
        for error, text in ((MonitorFull, "sent a"), (UnknownMessage, "sent c"), (UnknownMessage, "came tick")):
            with self.assertRaises(error):
                tell(monitor, text)
            self.assertEqual(monitor.journal(), before)
        tell(monitor, "sent b, tick")
        self.assertEqual(monitor.journal(), before)


class ReplayTest(MonitorCase):
    TEXT = "sent a, tick, came a, sent b, came b, came b, sent a, tick"

    def setUp(self):
        self.case, self.late = echo_case(), delays([2, 0], lost="a", twice="b")
        self.monitor = Monitor(self.case, self.late)
        tell(self.monitor, self.TEXT)
        self.lines = self.monitor.journal().split("\n")[:-1]

    def assert_raises(self, error, line, text, case=None, late=None):
        with self.assertRaises(error) as caught:
            replay(case or self.case, late or self.late, text)
        self.assertIs(caught.exception.__class__, error)
        self.assertIsInstance(caught.exception, JournalError)
        self.assertEqual(caught.exception.line, line)

    def test_a_journal(self):
        text = self.monitor.journal()
        found = replay(self.case, self.late, text)
        self.assertIs(found.__class__, Monitor)
        self.assertEqual(kept_by(found), kept_by(self.monitor))
        self.assertEqual(found.journal(), text)

    def test_the_new_monitor_goes_on_by_itself(self):
        first = replay(self.case, self.late, self.monitor.journal())
        second = replay(self.case, self.late, first.journal())
        self.assertEqual(tell(first, "tick, tick, sent b"), "ok")
        self.assertEqual(kept_by(second), kept_by(self.monitor))
        self.assertEqual(tell(second, "tick, tick, sent b"), "ok")
        self.assertEqual(kept_by(first), kept_by(second))
        self.assertEqual(kept_by(replay(self.case, self.late, first.journal())), kept_by(first))

    def test_the_empty_text(self):
        self.assertEqual(kept_by(replay(self.case, self.late, "")), ([(0, 0), (0, 0)], "", 0, False))

    def test_what_stands_after_the_last_newline_is_ignored(self):
        text = self.monitor.journal()
        for rest in ("tick", "x", " ", "sent a 1", "tick 14044", "came a 0 0"):
            self.assertEqual(replay(self.case, self.late, text + rest).journal(), text)
            self.assertEqual(replay(self.case, self.late, rest).journal(), "")
        cut = text[:-1]
        self.assertEqual(replay(self.case, self.late, cut).observations, self.monitor.observations - 1)
        for many in range(len(text)):
            whole = text[:many].rpartition("\n")
            self.assertEqual(replay(self.case, self.late, text[:many]).journal(), whole[0] + whole[1])

    def test_the_journal_of_a_closed_monitor(self):
        self.assertEqual(tell(self.monitor, "came b"), "impossible")
        found = replay(self.case, self.late, self.monitor.journal())
        self.assertIs(found.is_closed, False)
        self.assertEqual(kept_by(found)[:3], kept_by(self.monitor)[:3])

    def test_checksums_that_differ(self):
        for at, line in enumerate(self.lines):
            words, _, told = line.rpartition(" ")
            for wrong in (int(told) + 1, int(told) - 1, int(told) + 65521, 0, 1, int("1" + told)):
                lines = [*self.lines[:at], f"{words} {wrong}", *self.lines[at + 1:]]
                self.assert_raises(Changed, at + 1, "\n".join(lines) + "\n")

    def test_checksums_of_another_form(self):
        for at, line in enumerate(self.lines):
            words, _, told = line.rpartition(" ")
            for wrong in (
                f" 0{told}", f" 00{told}", f" +{told}", f" -{told}", f"  {told}", f" {told} ", f"{told}", "", " ", f" {told}.0",
                f" {told[:-1]}", f" {told}0", f" {told[0]}_{told[1:]}", f" 0x{int(told):x}", f" {told}\r", f"\t{told}", " ",
                " " + "".join(chr(0x660 + int(digit)) for digit in told), f" {told}\x0b", " " + "9" * 5000, " " + "0" * 5000,
            ):
                lines = [*self.lines[:at], words + wrong, *self.lines[at + 1:]]
                self.assert_raises(Changed, at + 1, "\n".join(lines) + "\n")

    def test_a_checksum_of_0(self):
        case, late = case_of("hears kfsv\nstate s", "hears kfsv\nstate x"), Delays(["kfsv"], [1])
        self.assertEqual(journal_of(["sent kfsv"]), "sent kfsv 0\n")
        self.assertEqual(replay(case, late, "sent kfsv 0\n").journal(), "sent kfsv 0\n")
        for wrong in ("00", "-0", "+0", "", "65521", "1"):
            self.assert_raises(Changed, 1, f"sent kfsv {wrong}\n", case, late)
        text = journal_of(["sent kfsv", "came kfsv"])
        self.assertEqual(replay(case, late, text).journal(), text)

    def test_lines_of_another_form(self):
        for words in (
            "", "tick a", "tick ", " tick", "ticks", "Tick", "sent", "sent ", "sent c", "sent tick", "came c", "came tick",
            "sent a a", "sent  a", " sent a", "came", "lost a", "a", "stopped", "forbidden", "sent a tick", "sent\ta", "sent A",
            "went a", "sent a\r",
        ):
            self.assert_raises(Changed, 1, journal_of([words]))
            self.assert_raises(Changed, 3, journal_of(["tick", "tick", words, "tick"]))
        for text in ("\n", "\n\n", " \n", "tick\n", "14044\n", "sent a\n", "0\n", "tick 14044\n\n", "tick 14044\r\n"):
            self.assert_raises(Changed, 2 if text == "tick 14044\n\n" else 1, text)

    def test_lines_left_out_doubled_or_in_another_order(self):
        for at in range(len(self.lines) - 1):
            left = [*self.lines[:at], *self.lines[at + 1:]]
            self.assert_raises(Changed, at + 1, "\n".join(left) + "\n")
            double = [*self.lines[:at + 1], *self.lines[at:]]
            self.assert_raises(Changed, at + 2, "\n".join(double) + "\n")
            swapped = [*self.lines[:at], self.lines[at + 1], self.lines[at], *self.lines[at + 2:]]
            self.assert_raises(Changed, at + 1, "\n".join(swapped) + "\n")

    def test_observations_that_are_impossible(self):
        self.assert_raises(Impossible, 1, journal_of(["came a"]))
        self.assert_raises(Impossible, 3, journal_of(["sent a", "tick", "came b", "tick"]))
        self.assert_raises(Impossible, 2, journal_of(["sent b", "tick", "came b", "came b"]))
        self.assert_raises(Impossible, 3, journal_of(["sent b", "came b", "came a", "came a", "came a"]))
        case = echo_case("\nban s b")
        self.assert_raises(Impossible, 2, journal_of(["tick", "sent b", "sent a"]), case)
        self.assert_raises(Impossible, 1, journal_of(["tick"]), echo_case("\nban s tick"))

    def test_changed_ahead_of_impossible(self):
        text = journal_of(["came a", "tick", "tick"])
        self.assert_raises(Impossible, 1, text)
        self.assert_raises(Changed, 3, text[:-2] + "\n")
        self.assert_raises(Changed, 4, text + "tick 1\n")
        self.assert_raises(Changed, 2, journal_of(["came a", "came c", "tick"]))
        self.assert_raises(Changed, 2002, journal_of(["tick"] * 2001) + "\n")

    def test_full_monitors(self):
        late = delays([1, 1], twice="a")
        text = journal_of(["sent a"] * 499)
        self.assertEqual(replay(self.case, late, text).observations, 499)
        self.assert_raises(Impossible, 500, journal_of(["sent a"] * 500 + ["came a"]), late=late)
        text = journal_of(["tick"] * 2000)
        self.assertEqual(replay(self.case, late, text).journal(), text)
        self.assert_raises(Impossible, 2001, journal_of(["tick"] * 2001), late=late)

    def test_chosen_journals(self):
        chance = random.Random(33)
        for _ in range(200):
            case, late = chosen_case(chance)
            monitor = Monitor(case, late)
            lines = []
            for _ in range(20):
                kind = chance.choice(("sent", "came", "tick"))
                lines.append(kind if kind == "tick" else f"{kind} {chance.choice(case.program.names)}")
                tell(monitor, lines[-1])
            self.assertEqual(kept_by(replay(case, late, monitor.journal()))[:3], kept_by(monitor)[:3])
            if monitor.is_closed:
                self.assert_raises(Impossible, monitor.observations + 1, journal_of(lines), case, late)

    def test_arguments_are_not_modified(self):
        before = copy.deepcopy((vars(self.case), vars(self.late)))
        replay(self.case, self.late, self.monitor.journal())
        tell(self.monitor, "sent b")
        self.assertEqual((vars(self.case), vars(self.late)), before)


class InterfaceTest(unittest.TestCase):
    def test_names_and_arguments(self):
        self.assertEqual(str(inspect.signature(replay)), "(case, delays, text)")
        self.assertEqual(str(inspect.signature(Monitor)), "(case, delays)")
        self.assertEqual({replay.__module__, Monitor.__module__}, {"latecoming.monitors"})
        methods = {"sent": "(self, name)", "came": "(self, name)", "tick": "(self)", "in_transit": "(self)", "journal": "(self)"}
        for name, arguments in methods.items():
            self.assertEqual(str(inspect.signature(vars(Monitor)[name])), arguments)
        for name in ("is_closed", "observations"):
            self.assertIsInstance(vars(Monitor)[name], property)
        self.assertIs(monitors.Monitor, Monitor)


if __name__ == "__main__":
    unittest.main()
