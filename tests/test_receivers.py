"""Polling and holding receivers (points 23 and 24)."""

import copy
import inspect
import random
import unittest

import brute_receivers as brute
from examples import case_of, chosen_case, echo_case, row_of, turning_case, waiting_traffic
from latecoming import receivers
from latecoming.cases import Delays
from latecoming.errors import TooLarge
from latecoming.receivers import first_holding_harm, first_polling_harm, heard_by_holding, heard_by_polling
from latecoming.search import first_harm

LATE = "hears a\nclocks t\nchannel c x\nstate s\nrule s a s when t from {} emit c x"
# One message, at the beginning, and no tick from then on.
ONCE = "hears a\nstate x\nstate y\nrule x a y\nban x tick\nban y a\nban y tick"


def read(text):
    """Returns the events of a text: `a, tick, stop` and so on."""
    events = []
    for word in text.replace(",", " ").split():
        events.append({"tick": ("tick",), "stop": ("stopped",)}.get(word, ("sent", word)))
    return events


class HeardByPollingTest(unittest.TestCase):
    def assert_heard(self, sent, expected, *receiver):
        items = sent.split()
        for given in (items, tuple(items)):
            found = heard_by_polling(given, *receiver)
            self.assertEqual(found, expected.split())
            self.assertIs(found.__class__, list)
        self.assertEqual(items, sent.split())

    def test_waiting_messages_are_heard_in_the_order_of_their_sending_and_then_the_tick(self):
        self.assert_heard("b a tick a b b tick", "tick b a a b b tick", 2)
        self.assert_heard("tick b tick a tick c tick", "tick tick b a tick tick tick c tick", 3)

    def test_at_other_ticks_the_tick_alone(self):
        self.assert_heard("a tick tick tick tick b tick", "tick tick tick tick a b tick", 5)
        self.assert_heard("tick tick tick", "tick tick tick", 2)

    def test_period_1_hears_all_as_it_is_sent_up_to_a_last_tick(self):
        self.assert_heard("a b tick b tick tick a", "a b tick b tick tick a tick", 1)
        self.assert_heard("a b tick", "a b tick", 1, 0)

    def test_period_60(self):
        self.assert_heard("a", "tick " * 59 + "a tick", 60)
        self.assert_heard("a", "tick " * 58 + "a tick", 60, 59)
        self.assert_heard("tick " * 59 + "a", "tick " * 59 + "a tick", 60)
        self.assert_heard("tick " * 60 + "a", "tick " * 119 + "a tick", 60, 0)
        self.assert_heard("tick " * 60 + "a", "tick " * 118 + "a tick", 60, 59)

    def test_each_offset(self):
        # The ticks with the numbers 3, 6, 9 ..; 1, 4, 7 ..; 2, 5, 8 ..
        self.assert_heard("a tick b tick c tick d", "tick tick a b c tick tick tick d tick", 3)
        self.assert_heard("a tick b tick c tick d", "tick tick a b c tick tick tick d tick", 3, 0)
        self.assert_heard("a tick b tick c tick d", "a tick tick tick b c d tick", 3, 1)
        self.assert_heard("a tick b tick c tick d", "tick a b tick tick tick c d tick", 3, 2)

    def test_ticks_go_on_until_no_message_waits(self):
        for before in range(9):
            sent = ["tick"] * before + ["a"]
            found = heard_by_polling(sent, 4, 3)
            self.assertEqual(found.count("tick"), next(tick for tick in (3, 7, 11) if tick > before))
            self.assertEqual(found[-2:], ["a", "tick"])

    def test_no_ticks_go_on_if_nothing_waits(self):
        self.assert_heard("", "", 7)
        self.assert_heard("tick", "tick", 7)
        self.assert_heard("a tick tick tick", "tick a tick tick", 2)
        self.assert_heard("tick a tick", "tick a tick", 2)

    def test_any_number_may_wait(self):
        self.assert_heard("a b " * 50, "tick tick " + "a b " * 50 + "tick", 3)

    def test_numbers_beyond_the_limits(self):
        self.assert_heard("a", "tick " * 60 + "a tick", 61)
        self.assert_heard("a tick tick tick", "tick a tick tick", 3, 5)
        self.assert_heard("a tick tick tick", "tick a tick tick", 3, -1)
        for period in (0, -1):
            self.assertEqual(sorted(heard_by_polling(["b", "tick", "a"], period))[:2], ["a", "b"])

    def test_chosen_items(self):
        chance = random.Random(23)
        for _ in range(500):
            items = [chance.choice(("a", "b", "tick", "tick")) for _ in range(chance.randint(0, 30))]
            period = chance.choice((1, 2, 3, 5, 12, 60))
            offset = chance.choice((0, period - 1, chance.randrange(period)))
            self.assertEqual(heard_by_polling(items, period, offset), brute.heard(items, brute.polling(period, offset)))


class HeardByHoldingTest(unittest.TestCase):
    def assert_heard(self, sent, expected, hold):
        items = sent.split()
        for given in (items, tuple(items)):
            found = heard_by_holding(given, hold)
            self.assertEqual(found, expected.split())
            self.assertIs(found.__class__, list)
        self.assertEqual(items, sent.split())

    def test_each_message_just_before_a_tick(self):
        self.assert_heard("a tick b tick tick c", "tick a tick b tick tick c tick", 2)
        self.assert_heard("a tick tick b tick", "tick tick a tick tick b tick", 3)

    def test_messages_that_are_due_at_the_same_tick(self):
        self.assert_heard("b a b tick a b tick tick", "tick b a b tick a b tick", 2)

    def test_hold_1_hears_all_as_it_is_sent_up_to_a_last_tick(self):
        self.assert_heard("a b tick b tick tick a", "a b tick b tick tick a tick", 1)
        self.assert_heard("a b tick", "a b tick", 1)

    def test_hold_60(self):
        self.assert_heard("a tick b", "tick " * 59 + "a tick b tick", 60)
        self.assert_heard("tick " * 60 + "a", "tick " * 119 + "a tick", 60)

    def test_ticks_go_on_until_no_message_waits(self):
        self.assert_heard("a", "tick tick a tick", 3)
        self.assert_heard("a tick", "tick tick a tick", 3)
        self.assert_heard("a tick b", "tick tick a tick b tick", 3)
        self.assert_heard("a tick tick tick", "tick tick a tick", 3)
        self.assert_heard("a tick tick tick tick", "tick tick a tick tick", 3)

    def test_no_ticks_go_on_if_nothing_waits(self):
        self.assert_heard("", "", 7)
        self.assert_heard("tick tick", "tick tick", 60)

    def test_any_number_may_wait(self):
        self.assert_heard("a b " * 50, "tick tick " + "a b " * 50 + "tick", 3)

    def test_numbers_beyond_the_limits(self):
        self.assert_heard("a", "tick " * 60 + "a tick", 61)
        for hold in (0, -1):
            self.assertEqual(sorted(heard_by_holding(["b", "tick", "a"], hold))[:2], ["a", "b"])

    def test_chosen_items(self):
        chance = random.Random(24)
        for _ in range(500):
            items = [chance.choice(("a", "b", "tick", "tick")) for _ in range(chance.randint(0, 30))]
            hold = chance.choice((1, 2, 3, 5, 12, 60))
            self.assertEqual(heard_by_holding(items, hold), brute.heard(items, brute.holding(hold)))


class ReceiverCase(unittest.TestCase):
    def assert_polling(self, case, expected, period, offset=0):
        """The search ends with these events, or with None, or raises TooLarge."""
        if expected == "large":
            with self.assertRaises(TooLarge):
                first_polling_harm(case, period, offset)
            return
        found = first_polling_harm(case, period, offset)
        self.assertEqual(found, None if expected is None else read(expected))
        if offset == 0:
            self.assertEqual(first_polling_harm(case, period), found)

    def assert_holding(self, case, expected, hold):
        if expected == "large":
            with self.assertRaises(TooLarge):
                first_holding_harm(case, hold)
            return
        self.assertEqual(first_holding_harm(case, hold), None if expected is None else read(expected))


class PollingHarmTest(ReceiverCase):
    def test_a_message_that_waits(self):
        for period in (1, 2, 59, 60):
            for offset in {0, 1, period - 1} & set(range(period)):
                # The first tick that is looked at; the message comes when the ticks before it have passed.
                first = offset if offset > 0 else period
                waits = "a, stop" + ", tick" * first
                self.assert_polling(case_of(LATE.format(first), ONCE, "ordered"), None, period, offset)
                if first > 1:
                    self.assert_polling(case_of(LATE.format(first - 1), ONCE, "ordered"), waits, period, offset)

    def test_ticks_before_the_message_count(self):
        # It shows if the message comes after four ticks; ticks are forbidden once it is sent, but not before.
        case = case_of(LATE.format(4), ONCE.replace("\nban x tick", ""), "ordered")
        self.assert_polling(case, None, 4)
        self.assert_polling(case, "tick, tick, tick, a, stop, tick, tick", 5)
        self.assert_polling(case, "tick, tick, tick, a, stop, tick, tick, tick", 6)
        self.assert_polling(case, "tick, tick, tick, a, stop, tick, tick", 4, 1)
        self.assert_polling(case, None, 2, 0)
        self.assert_polling(case, "tick, tick, tick, a, stop, tick, tick", 2, 1)

    def test_nothing_is_lost_or_overtaken(self):
        for view in ("ordered", "unordered", "ignored"):
            case = echo_case("\nstate t\nstate u\nrule s a t\nrule t b u\nban s b\nban t a\nban u a\nban u b", view)
            for period, offset in ((1, 0), (2, 0), (2, 1), (7, 3)):
                self.assert_polling(case, None, period, offset)

    def test_what_the_program_tells_apart(self):
        # A tick between an a and a b shows; the two are heard together if they wait for the same tick.
        program = "hears a b\nchannel c x\nstate s\nstate u\nstate v\nrule s a u\nrule u tick v\nrule v b s emit c x"
        traffic = "hears a b\nstate x\nstate y\nstate z\nrule x a y\nrule y b z\nban x b\nban y a\nban z a\nban z b"
        self.assert_polling(case_of(program, traffic, "ordered"), "a, tick, b, stop, tick", 2)
        self.assert_polling(case_of(program, traffic, "ordered"), "tick, a, tick, b, stop, tick", 2, 1)
        self.assert_polling(case_of(program, traffic, "ordered"), None, 1)
        self.assert_polling(case_of(program, traffic, "ignored"), None, 2)

    def test_the_quiet_time(self):
        program = "hears a\nclocks t\nchannel c x\nstate s\nstate u\nrule s a u reset t"
        program += "\nrule u tick s when t from 60 emit c x"
        for quiet in (0, 1, 57, 58, 59, 60):
            # The sent side hears the a one tick earlier, unless the tick is the one that is looked at.
            case = case_of(program, ONCE, "ordered", quiet=quiet)
            self.assert_polling(case, "a, stop, tick, tick" if quiet == 58 else None, 2)
            self.assert_polling(case, None, 2, 1)

    def test_no_tick_follows_when_nothing_waits(self):
        program = "hears a\nchannel c x\nstate s\nrule s tick s emit c x"
        self.assert_polling(case_of(program, ONCE, "ordered"), None, 3)

    def test_what_traffic_forbids(self):
        program = "hears a\nchannel c x\nstate s\nstate u\nrule s tick s emit c x\nrule s a u"
        self.assert_polling(case_of(program, "hears a\nstate x\nban x a", "ordered"), None, 2)
        self.assert_polling(case_of(program, ONCE, "ordered"), "a, stop, tick, tick", 2)
        self.assert_polling(case_of(program, "hears a\nstate x\nban x tick", "ordered"), "a, stop, tick, tick", 2)
        # A tick of the sender is possible although a message waits.
        stays = "hears a\nclocks t\nstate x\nban x a when t from 1\nban x tick when t from 2"
        self.assert_polling(case_of(program, stays, "ordered"), "a, stop, tick, tick", 2)

    def test_the_order_of_events(self):
        program = "hears b a\nchannel c x\nstate s\nstate u\nrule s a u\nrule s b u\nrule s tick s emit c x"
        traffic = "hears b a\nstate x\nstate y\nrule x a y\nrule x b y\nban y a\nban y b"
        self.assert_polling(case_of(program, traffic, "ordered"), "b, stop, tick, tick", 2)
        self.assert_polling(case_of(program, traffic, "ordered"), "tick, b, stop, tick, tick", 2, 1)
        traffic = traffic.replace("rule x b y", "ban x b")
        self.assert_polling(case_of(program, traffic, "ordered"), "a, stop, tick, tick", 2)
        self.assert_polling(case_of(program, traffic, "ordered"), "tick, a, stop, tick, tick", 2, 1)

    def test_no_channels(self):
        self.assert_polling(case_of("hears a\nstate s", row_of("a", 3), quiet=60), None, 7, 4)

    def test_numbers_beyond_the_limits(self):
        self.assert_polling(case_of(LATE.format(60), ONCE, "ordered"), "a, stop" + ", tick" * 61, 61)
        self.assert_polling(case_of(LATE.format(2), ONCE, "ordered"), "a, stop, tick, tick, tick", 3, 3)
        self.assert_polling(case_of("hears a\nstate s", ONCE), None, 0)


class HoldingHarmTest(ReceiverCase):
    def test_a_message_that_waits(self):
        for hold in (1, 2, 59, 60):
            self.assert_holding(case_of(LATE.format(hold), ONCE, "ordered"), None, hold)
            if hold > 1:
                waits = "a, stop" + ", tick" * hold
                self.assert_holding(case_of(LATE.format(hold - 1), ONCE, "ordered"), waits, hold)

    def test_what_the_program_tells_apart(self):
        # Whether a tick stands between the two does not change, but how long it is until the first.
        program = "hears a b\nchannel c x\nstate s\nstate u\nstate v\nrule s a u\nrule u tick v\nrule v b s emit c x"
        traffic = "hears a b\nstate x\nstate y\nstate z\nrule x a y\nrule y b z\nban x b\nban y a\nban z a\nban z b"
        for hold in (1, 2, 5):
            self.assert_holding(case_of(program, traffic, "ordered"), None, hold)
        program = "hears a b\nchannel c x\nstate s\nstate u\nstate v\nrule s tick u\nrule s a v emit c x"
        for view, expected in (("ordered", "a, stop, tick, tick"), ("ignored", None)):
            self.assert_holding(case_of(program, traffic, view), expected, 2)
            self.assert_holding(case_of(program, traffic, view), None, 1)

    def test_the_quiet_time(self):
        program = "hears a\nclocks t\nchannel c x\nstate s\nstate u\nrule s a u reset t"
        program += "\nrule u tick s when t from 60 emit c x"
        for quiet in (0, 56, 57, 58, 59, 60):
            case = case_of(program, ONCE, "ordered", quiet=quiet)
            self.assert_holding(case, "a, stop, tick, tick, tick" if quiet in (57, 58) else None, 3)

    def test_no_tick_follows_when_nothing_waits(self):
        program = "hears a\nchannel c x\nstate s\nrule s tick s emit c x"
        self.assert_holding(case_of(program, ONCE, "ordered"), None, 3)

    def test_the_order_of_events(self):
        program = "hears b a\nchannel c x\nstate s\nstate u\nrule s a u\nrule s b u\nrule s tick s emit c x"
        traffic = "hears b a\nstate x\nstate y\nrule x a y\nrule x b y\nban y a\nban y b"
        self.assert_holding(case_of(program, traffic, "ordered"), "b, stop, tick, tick", 2)
        traffic = traffic.replace("rule x b y", "ban x b")
        self.assert_holding(case_of(program, traffic, "ordered"), "a, stop, tick, tick", 2)

    def test_no_channels(self):
        self.assert_holding(case_of("hears a\nstate s", row_of("a", 3), quiet=60), None, 7)

    def test_numbers_beyond_the_limits(self):
        self.assert_holding(case_of(LATE.format(60), ONCE, "ordered"), "a, stop" + ", tick" * 61, 61)
        self.assert_holding(case_of("hears a\nstate s", ONCE), None, 0)


class TooLargeTest(ReceiverCase):
    def test_6_and_7_waiting_messages(self):
        for many, expected in ((6, None), (7, "large")):
            # No tick until the sender stops.
            bans = "".join(f"\nban x{at} tick" for at in range(many + 1))
            case = case_of("hears a\nstate s", row_of("a", many) + bans)
            for period, offset in ((1, 0), (2, 0), (2, 1), (60, 0), (60, 59)):
                self.assert_polling(case, expected, period, offset)
            for hold in (1, 2, 60):
                self.assert_holding(case, expected, hold)

    def test_messages_that_were_heard_do_not_count(self):
        # A tick between two messages.
        states = "".join(f"\nstate x{at}\nstate y{at}" for at in range(9))
        rules = "".join(f"\nrule x{at} a y{at}\nban y{at} a\nrule y{at} tick x{at + 1}" for at in range(8))
        case = case_of("hears a\nstate s", "hears a" + states + rules + "\nban x8 a\nban y8 a")
        for wait, expected in ((1, None), (6, None), (7, "large"), (60, "large")):
            self.assert_polling(case, expected, wait)
            self.assert_holding(case, expected, wait)

    def test_harm_before_the_seventh_message(self):
        program = "hears a\nclocks t\nchannel c x\nstate s\nrule s a s when t from 1 emit c x"
        case = case_of(program, "hears a\nstate x\nban x tick", "ordered")
        # The last tick is the eighth event with a wait of 6; seven messages may be sent before.
        for wait, expected in ((2, "a, stop, tick, tick"), (4, "a, stop, tick, tick, tick, tick"), (6, "large")):
            self.assert_polling(case, expected, wait)
            self.assert_holding(case, expected, wait)

    def test_1000_and_1001_kept(self):
        # So many while the sender sends, and so many when it has stopped.
        for program, traffic, period, kept in (
            (10, 99, 1, 990 + 10), (10, 99, 10, 990 + 10), (10, 99, 5, 990 + 10),
            (7, 142, 1, 994 + 7), (7, 142, 7, 994 + 7), (10, 99, 3, 990 + 30), (10, 33, 9, 990 + 90),
            (2, 7, 55, 770 + 110), (2, 7, 60, 420 + 60), (1, 10, 50, 50 + 50), (1, 1, 60, 120),
        ):
            expected = None if kept <= 1000 else "large"
            for offset in {0, period - 1}:
                self.assert_polling(turning_case(program, traffic), expected, period, offset)
        for program, traffic, kept in ((10, 99, 1000), (7, 142, 1001)):
            for hold in (1, 60):
                self.assert_holding(turning_case(program, traffic), None if kept <= 1000 else "large", hold)

    def test_harm_that_is_the_thousandth_or_one_more(self):
        # It shows whether one tick follows a message, or two.
        program = "hears a\nchannel c x\nstate s\nstate u\nstate v\nrule s a u\nrule u tick v\nrule v tick v emit c x"
        for ticks, kept in ((60, 69), (990, 999), (991, 1000), (992, 1001), (1100, 1109)):
            case = case_of(program, waiting_traffic(ticks), "ordered")
            # The ticks from none on; a stop; then `a`; `a, stop`, `a, a`; `a, stop, tick` and two more.
            self.assertEqual(kept, ticks + 1 + 1 + 1 + 2 + 3 + 1)
            found = "tick, " * ticks + "a, stop, tick, tick"
            self.assert_holding(case, found if kept <= 1000 else "large", 2)
            # A polling receiver has one more scene behind a stop for each other number of ticks modulo the period.
            more = kept + 3
            self.assert_polling(case, found if more <= 1000 else "large", 4, (ticks + 2) % 4)
        for ticks, end in ((988, "found"), (989, "large")):
            case = case_of(program, waiting_traffic(ticks), "ordered")
            found = "tick, " * ticks + "a, stop, tick, tick"
            self.assert_polling(case, found if end == "found" else end, 4, (ticks + 2) % 4)

    def test_against_definitions_at_the_limits(self):
        for many, period in ((6, 7), (6, 12), (5, 60), (3, 60), (7, 3)):
            case = case_of("hears a\nchannel c x\nstate s\nrule s a s emit c x", row_of("a", many), "ignored")
            expected = brute.search(case, brute.polling(period), period)
            self.assert_polling(case, expected, period)
            expected = brute.search(case, brute.holding(period))
            self.assert_holding(case, expected, period)


class AgainstDefinitionsTest(ReceiverCase):
    def test_chosen_cases(self):
        chance = random.Random(25)
        ends = []
        for _ in range(300):
            case, _ = chosen_case(chance)
            period = chance.choice((1, 2, 3, 4, 60))
            offset = chance.choice((0, period - 1, chance.randrange(period)))
            heard_at = brute.polling(period, offset)
            ends.append(self.compare(lambda: first_polling_harm(case, period, offset), case, heard_at, period))
            hold = chance.choice((1, 2, 3, 4, 60))
            ends.append(self.compare(lambda: first_holding_harm(case, hold), case, brute.holding(hold), None))
        for end in ("harm", "none", "large"):
            self.assertGreater(ends.count(end), 30)

    def compare(self, find, case, heard_at, period):
        """Compares a search with one that begins each sequence of events from its first one."""
        try:
            found = find()
        except TooLarge:
            self.assertEqual(brute.search(case, heard_at, period, most_kept=60), "large")
            return "large"
        expected = brute.search(case, heard_at, period, most_kept=60)
        if expected == "large":
            # It gave up before the end.
            return "unknown"
        self.assertEqual(found, expected)
        return "none" if found is None else "harm"

    def test_what_is_heard_is_what_harms(self):
        chance = random.Random(26)
        seen = 0
        for _ in range(300):
            case, _ = chosen_case(chance)
            found = self.found(first_polling_harm, case, 3, 1)
            seen += self.is_heard(case, found, brute.polling(3, 1), lambda items: heard_by_polling(items, 3, 1))
            found = self.found(first_holding_harm, case, 2)
            seen += self.is_heard(case, found, brute.holding(2), lambda items: heard_by_holding(items, 2))
        self.assertGreater(seen, 30)

    def is_heard(self, case, found, heard_at, heard):
        """Compares what a receiver hears with the harmful events that were found; tells whether there are any."""
        if found in (None, "large"):
            return False
        history = brute.History(case, heard_at, None, found)
        self.assertTrue(history.is_complete() and history.is_harmful())
        # What is sent before the stop is enough: the ticks after it follow of themselves.
        sent = history.sent[:found.index(("stopped",))]
        self.assertEqual(heard(sent), brute.heard(history.sent, heard_at, False))
        return True

    def found(self, find, *arguments):
        try:
            return find(*arguments)
        except TooLarge:
            return "large"

    def test_what_a_receiver_hears_is_a_delivery(self):
        # If no delivery with messages that are so late is harmful, no receiver that hears them in time is.
        chance = random.Random(27)
        seen = 0
        for _ in range(300):
            case, late = chosen_case(chance)
            wait = chance.choice((1, 2, 3))
            given = Delays(late.names, [wait] * len(late.names))
            if self.found(first_harm, case, given) is None:
                seen += 1
                for offset in range(wait):
                    self.assertIn(self.found(first_polling_harm, case, wait, offset), (None, "large"))
                self.assertIn(self.found(first_holding_harm, case, wait), (None, "large"))
            self.assertIn(self.found(first_polling_harm, case, 1), (None, "large"))
            self.assertIn(self.found(first_holding_harm, case, 1), (None, "large"))
        self.assertGreater(seen, 30)


class InterfaceTest(unittest.TestCase):
    def test_names_and_arguments(self):
        expected = {
            "first_polling_harm": "(case, period, offset=0)",
            "first_holding_harm": "(case, hold)",
            "heard_by_polling": "(items, period, offset=0)",
            "heard_by_holding": "(items, hold)",
        }
        for name, arguments in expected.items():
            found = getattr(receivers, name)
            self.assertEqual(str(inspect.signature(found)), arguments)
            self.assertEqual(found.__module__, "latecoming.receivers")

    def test_results_are_lists_that_are_not_shared(self):
        case = case_of(LATE.format(1), ONCE, "ordered")
        before = copy.deepcopy(vars(case))
        for find in (lambda: first_polling_harm(case, 2), lambda: first_holding_harm(case, 2)):
            found = find()
            self.assertIs(found.__class__, list)
            self.assertEqual({event.__class__ for event in found}, {tuple})
            found.clear()
            self.assertEqual(find(), read("a, stop, tick, tick"))
        self.assertEqual(vars(case), before)


if __name__ == "__main__":
    unittest.main()
