"""Texts of machines: forms, order, errors, and what is written (points 7 to 10)."""

import unittest

from latecoming.errors import LateError, Malformed, Misplaced, Repeated, TextError, TooMany, Unknown
from latecoming.machines import Machine, permitted, run
from latecoming.texts import format_machine, parse_machine

# A program, and a traffic machine, that each text of a rule or a ban is added to.
HEAD = "hears on off\nclocks t u\nchannel lamp lit dark\nchannel bell lamp ding\nstate a\nstate b2"
TRAFFIC_HEAD = "hears on off\nclocks t u\nstate a\nstate b2"
LETTERS = "abcdefghijklmnopqrstuvwxyz"


def text_with(characters):
    """Returns the text of a machine with so many characters, about 20000."""
    rule = "\nrule a a a" + " when t under 60" * 3 + " reset t" * 3 + " emit c x" * 4
    text = "hears a\nclocks t\nchannel c x\nstate a" + rule * 168
    text = text.replace("under 60", "under 6", len(text) - characters)
    assert len(text) == characters
    return text


class TextCase(unittest.TestCase):
    def assert_error(self, text, kind, line, word=None, traffic=False):
        """The text raises an error of exactly this kind, and is caught by each of its bases."""
        for caught in (kind, TextError, LateError, ValueError):
            try:
                parse_machine(text, traffic=traffic)
            except caught as error:
                self.assertIs(error.__class__, kind, text)
                self.assertEqual(error.line, line, text)
                if word is not None:
                    self.assertEqual(error.word, word, text)
            else:
                self.fail(f"no error in {text!r}")

    def assert_malformed_first_line(self, *lines):
        for line in lines:
            self.assert_error(line + "\nstate a", Malformed, 1)

    def assert_malformed_end(self, *lines):
        """Each line is malformed at the end of a text, in the text of a program and of traffic."""
        for line in lines:
            self.assert_error(HEAD + "\n" + line, Malformed, 7)
            self.assert_error(TRAFFIC_HEAD + "\n" + line, Malformed, 5, traffic=True)


class HeadFormsTest(TextCase):
    def names_of(self, line):
        return parse_machine(line + "\nstate a").names

    def test_hears_has_1_to_4_names(self):
        self.assertEqual(self.names_of("hears a"), ("a",))
        self.assertEqual(self.names_of("hears d c b a"), ("d", "c", "b", "a"))
        self.assert_malformed_first_line("hears", "hears a b c d e")

    def test_words_of_1_8_and_9_letters(self):
        self.assertEqual(self.names_of("hears z abcdefgh stuvwxyz"), ("z", "abcdefgh", "stuvwxyz"))
        self.assertEqual(self.names_of("hears abcdefgi"), ("abcdefgi",))
        self.assert_malformed_first_line("hears abcdefghi", "hears a abcdefghi")

    def test_a_name_has_letters_from_a_to_z_only(self):
        for letter in LETTERS:
            self.assertEqual(self.names_of("hears " + letter), (letter,))
        for character in "A Z 0 9 _ - . ` { \t \r \x0b \x00 \xe4 \u0430 \u0663".split(" "):
            self.assert_malformed_first_line("hears " + character, f"hears a{character}", f"hears {character}a")

    def test_tick_is_no_name(self):
        self.assert_malformed_first_line("hears tick", "hears a tick", "hears tick a")
        self.assertEqual(self.names_of("hears ticks tic"), ("ticks", "tic"))

    def test_the_same_name_twice(self):
        self.assert_malformed_first_line("hears a a", "hears a b a", "hears a b c c")

    def test_words_of_the_forms_may_be_names(self):
        self.assertEqual(self.names_of("hears hears state rule when"), ("hears", "state", "rule", "when"))

    def test_clocks_has_1_to_3_different_words(self):
        def clocks_of(line):
            return parse_machine(f"hears a\n{line}\nstate a").clocks

        self.assertEqual(clocks_of("clocks t"), ("t",))
        self.assertEqual(clocks_of("clocks tick a abcdefgh"), ("tick", "a", "abcdefgh"))
        for line in ("clocks", "clocks a b c d", "clocks t t", "clocks t u t", "clocks abcdefghi", "clocks t1"):
            self.assert_error(f"hears a\n{line}\nstate a", Malformed, 2)
            self.assert_error(f"hears a\n{line}\nstate a", Malformed, 2, traffic=True)

    def test_a_channel_has_a_name_and_1_to_4_different_signals(self):
        def channels_of(line):
            return parse_machine(f"hears a\n{line}\nstate a").channels

        self.assertEqual(channels_of("channel lamp lit"), (("lamp", ("lit",)),))
        self.assertEqual(channels_of("channel tick d tick abcdefgh a"), (("tick", ("d", "tick", "abcdefgh", "a")),))
        self.assertEqual(channels_of("channel abcdefgh a"), (("abcdefgh", ("a",)),))
        for line in (
            "channel",
            "channel lamp",
            "channel lamp a b c d e",
            "channel lamp a a",
            "channel lamp a b a",
            "channel abcdefghi a",
            "channel lamp abcdefghi",
            "channel lamp a1",
            "channel lamp1 a",
        ):
            self.assert_error(f"hears a\n{line}\nstate a", Malformed, 2)

    def test_a_signal_may_be_called_as_its_channel(self):
        machine = parse_machine("hears a\nchannel lamp lamp lit\nstate a\nrule a a a emit lamp lamp")
        self.assertEqual(machine.channels, (("lamp", ("lamp", "lit")),))
        self.assertEqual(machine.rules, ((0, "a", 0, (), (), ((0, "lamp"),)),))

    def test_a_state_is_a_letter_and_up_to_7_letters_or_digits(self):
        for state in ("a", "z", "a0123456", "z7890", "abcdefgh", "a1b2c3d4", "tick", "state"):
            self.assertEqual(parse_machine(f"hears a\nstate {state}").states, (state,))
        for state in ("", "0", "1a", "abcdefghi", "a12345678", "A", "aB", "a_", "a-1", "\xe4", "a\u0663", "a b"):
            self.assert_error(f"hears a\nstate {state}", Malformed, 2)
            self.assert_error(f"hears a\nstate {state}", Malformed, 2, traffic=True)
        self.assert_error("hears a\nstate", Malformed, 2)


class RuleFormsTest(TextCase):
    def rule_of(self, line):
        return parse_machine(HEAD + "\n" + line).rules[0]

    def ban_of(self, line):
        return parse_machine(TRAFFIC_HEAD + "\n" + line, traffic=True).rules[0]

    def test_the_least_rule_and_ban(self):
        self.assertEqual(self.rule_of("rule a on b2"), (0, "on", 1, (), (), ()))
        self.assertEqual(self.rule_of("rule b2 off a"), (1, "off", 0, (), (), ()))
        self.assertEqual(self.rule_of("rule b2 tick b2"), (1, "tick", 1, (), (), ()))
        self.assertEqual(self.ban_of("rule a on b2"), (0, "on", 1, (), (), ()))
        self.assertEqual(self.ban_of("ban a off"), (0, "off", None, (), (), ()))
        self.assertEqual(self.ban_of("ban b2 tick"), (1, "tick", None, (), (), ()))
        self.assert_malformed_end("rule", "rule a", "rule a on", "ban", "ban a")

    def test_the_greatest_rule(self):
        line = (
            "rule a on b2 when u under 60 when t from 1 when u from 9 reset u reset t reset u "
            "emit bell lamp emit lamp dark emit lamp lit emit bell lamp"
        )
        conditions = ((1, "under", 60), (0, "from", 1), (1, "from", 9))
        signals = ((1, "lamp"), (0, "dark"), (0, "lit"), (1, "lamp"))
        self.assertEqual(self.rule_of(line), (0, "on", 1, conditions, (1, 0, 1), signals))

    def test_one_clause_too_many(self):
        self.assert_malformed_end(
            "rule a on b2" + " when t under 5" * 4,
            "rule a on b2" + " reset t" * 4,
            "rule a on b2" + " emit lamp lit" * 5,
            "ban a on" + " when t under 5" * 4,
        )

    def test_the_greatest_ban(self):
        line = "ban b2 tick when t under 2 when u from 3 when t under 4"
        self.assertEqual(
            self.ban_of(line), (1, "tick", None, ((0, "under", 2), (1, "from", 3), (0, "under", 4)), (), ())
        )
        self.assert_malformed_end("ban a on reset t", "ban a on emit lamp lit", "ban a on when t under 5 reset t")
        self.assert_malformed_end("ban a on b2", "ban a on a")

    def test_each_kind_of_clause_alone(self):
        self.assertEqual(self.rule_of("rule a on a when t under 5"), (0, "on", 0, ((0, "under", 5),), (), ()))
        self.assertEqual(self.rule_of("rule a on a reset u"), (0, "on", 0, (), (1,), ()))
        self.assertEqual(self.rule_of("rule a on a emit lamp lit"), (0, "on", 0, (), (), ((0, "lit"),)))
        self.assertEqual(
            self.rule_of("rule a on a when t from 5 emit lamp lit"),
            (0, "on", 0, ((0, "from", 5),), (), ((0, "lit"),)),
        )

    def test_clauses_out_of_order(self):
        self.assert_malformed_end(
            "rule a on b2 reset t when t under 5",
            "rule a on b2 emit lamp lit reset t",
            "rule a on b2 emit lamp lit when t under 5",
            "rule a on b2 when t under 5 reset t when t under 5",
            "rule a on b2 reset t emit lamp lit reset t",
        )

    def test_clauses_with_a_part_too_few_or_too_many(self):
        self.assert_malformed_end(
            "rule a on b2 when",
            "rule a on b2 when t",
            "rule a on b2 when t under",
            "rule a on b2 when t under 5 6",
            "rule a on b2 reset",
            "rule a on b2 reset t u",
            "rule a on b2 emit",
            "rule a on b2 emit lamp",
            "rule a on b2 emit lamp lit dark",
            "rule a on b2 then",
            "rule a on b2 a",
            "ban a on when",
            "ban a on when t",
            "ban a on when t under",
            "ban a on when t under 5 6",
        )

    def test_parts_that_are_no_words(self):
        self.assert_malformed_end(
            "rule A on a",
            "rule 1 on a",
            "rule abcdefghi on a",
            "rule a o1 a",
            "rule a abcdefghi a",
            "rule a on A",
            "rule a on abcdefghi",
            "rule a on 2b",
            "rule a on a when t1 under 5",
            "rule a on a when abcdefghi under 5",
            "rule a on a when t before 5",
            "rule a on a when t Under 5",
            "rule a on a reset t1",
            "rule a on a reset abcdefghi",
            "rule a on a emit lamp1 lit",
            "rule a on a emit abcdefghi lit",
            "rule a on a emit lamp lit1",
            "rule a on a emit lamp abcdefghi",
            "ban A on",
            "ban 1 on",
            "ban a o1",
            "ban a abcdefghi",
            "ban a on when t1 under 5",
            "ban a on when t to 5",
            "ban a on when t from x",
        )

    def test_limits_from_1_to_60(self):
        for limit in (1, 2, 9, 10, 19, 59, 60):
            for comparison in ("under", "from"):
                found = self.rule_of(f"rule a on a when t {comparison} {limit}")
                self.assertEqual(found, (0, "on", 0, ((0, comparison, limit),), (), ()))
                found = self.ban_of(f"ban a on when t {comparison} {limit}")
                self.assertEqual(found, (0, "on", None, ((0, comparison, limit),), (), ()))

    def test_other_limits(self):
        for limit in ("0", "61", "99", "100", "01", "007", "00", "-1", "+1", "1.0", "5a", "1_0", "\u0663", "9" * 5000):
            for comparison in ("under", "from"):
                condition = f"when t {comparison} {limit}"
                self.assert_malformed_end(f"rule a on a {condition}", f"ban a on {condition}")

    def test_words_of_the_forms_may_be_names_of_all_kinds(self):
        text = (
            "hears rule\nclocks when reset\nchannel emit emit when\nstate when\nstate emit\n"
            "rule when rule emit when when under 5 reset reset emit emit when"
        )
        machine = parse_machine(text)
        self.assertEqual(machine.rules, ((0, "rule", 1, ((0, "under", 5),), (1,), ((0, "when"),)),))


class EmptyPartsTest(TextCase):
    def test_an_empty_part(self):
        for number, line in enumerate(HEAD.split("\n"), start=1):
            lines = HEAD.split("\n")
            for changed in (" " + line, line + " ", line.replace(" ", "  ", 1), line.replace(" ", "\t", 1)):
                lines[number - 1] = changed
                self.assert_error("\n".join(lines), Malformed, number)
        self.assert_malformed_end(" rule a on a", "rule a on a ", "rule a  on a", "rule a on a  reset t", " ")
        self.assert_malformed_end(" ban a on", "ban a on ", "ban a  on", "ban a on  when t under 5")

    def test_an_empty_part_at_each_place(self):
        for line in ("rule a on a when t under 5 reset u emit lamp lit", "ban a on when t from 5"):
            parts = line.split(" ")
            for place in range(len(parts)):
                self.assert_malformed_end(" ".join(parts[:place] + [""] + parts[place:]))
                self.assert_malformed_end(" ".join(parts[:place] + [""] + parts[place + 1:]))
            self.assert_malformed_end(line + " ")
        for line in ("hears a b", "clocks a b", "channel c a b", "state a"):
            parts = line.split(" ")
            for place in range(len(parts)):
                changed = " ".join(parts[:place] + [""] + parts[place + 1:])
                self.assert_malformed_end(changed)

    def test_empty_texts_and_lines(self):
        for traffic in (False, True):
            self.assert_error("", Malformed, 1, traffic=traffic)
            self.assert_error("\n", Malformed, 1, traffic=traffic)
            self.assert_error("\nhears a\nstate a", Malformed, 1, traffic=traffic)
            self.assert_error("hears a\n\nstate a", Malformed, 2, traffic=traffic)
            self.assert_error("hears a\nstate a\n", Malformed, 3, traffic=traffic)
            self.assert_error("hears a\n", Malformed, 2, traffic=traffic)

    def test_only_a_newline_ends_a_line(self):
        for between in ("\r\n", "\r", "\x0b", "\x0c", "\x1c", "\x85", "\u2028"):
            self.assert_error(f"hears a{between}state a", Malformed, 1)

    def test_lines_of_no_kind(self):
        for line in ("hear a", "Hears a", "HEARS a", "hearsa", "comment", "# a", "when t under 5"):
            self.assert_malformed_first_line(line)
            self.assert_malformed_end(line)


class OrderTest(TextCase):
    def test_texts_in_order(self):
        parse_machine("hears a\nstate a")
        parse_machine("hears a\nstate a\nstate b\nrule a a b\nrule b a a")
        parse_machine("hears a\nclocks t\nstate a")
        parse_machine("hears a\nchannel c x\nstate a")
        parse_machine("hears a\nclocks t\nchannel c x\nchannel d x\nchannel e x\nstate a\nrule a a a")
        parse_machine("hears a\nclocks t\nstate a\nban a a\nrule a a a\nban a a", traffic=True)
        parse_machine("hears a\nstate a\nrule a a a\nban a a\nrule a a a", traffic=True)

    def test_any_other_line_before_hears(self):
        for line in ("clocks t", "state a", "rule a a a"):
            self.assert_error(line + "\nhears a\nstate a", Misplaced, 1)
            self.assert_error(line + "\nhears a\nstate a", Misplaced, 1, traffic=True)
        self.assert_error("channel c x\nhears a\nstate a", Misplaced, 1)
        self.assert_error("ban a a\nhears a\nstate a", Misplaced, 1, traffic=True)

    def misplaced_behind(self, lines, *others, traffic=False):
        """Each other line is out of place behind the lines."""
        for other in others:
            text = "\n".join([*lines, other, "state z"])
            self.assert_error(text, Misplaced, len(lines) + 1, traffic=traffic)

    def test_behind_hears(self):
        self.misplaced_behind(["hears a"], "hears a", "hears b", "rule a a a")
        self.misplaced_behind(["hears a"], "hears a", "rule a a a", "ban a a", traffic=True)

    def test_behind_clocks(self):
        self.misplaced_behind(["hears a", "clocks t"], "hears b", "clocks t", "clocks u", "rule a a a")
        self.misplaced_behind(["hears a", "clocks t"], "hears b", "clocks u", "rule a a a", "ban a a", traffic=True)

    def test_behind_a_channel(self):
        lines = ["hears a", "channel c x"]
        self.misplaced_behind(lines, "hears b", "clocks t", "rule a a a")
        self.misplaced_behind(["hears a", "clocks t", "channel c x"], "hears b", "clocks u", "rule a a a")

    def test_behind_a_state(self):
        self.misplaced_behind(["hears a", "state a"], "hears b", "clocks t", "channel c x")
        self.misplaced_behind(["hears a", "state a"], "hears b", "clocks t", traffic=True)
        self.misplaced_behind(["hears a", "clocks t", "channel c x", "state a"], "hears b", "clocks u", "channel d x")

    def test_behind_a_rule_or_a_ban(self):
        lines = ["hears a", "state a", "rule a a a"]
        self.misplaced_behind(lines, "hears b", "clocks t", "channel c x", "state b")
        self.misplaced_behind(lines, "hears b", "clocks t", "state b", traffic=True)
        lines = ["hears a", "state a", "ban a a"]
        self.misplaced_behind(lines, "hears b", "clocks t", "state b", traffic=True)

    def test_a_channel_in_the_text_of_a_traffic_machine(self):
        self.misplaced_behind(["hears a"], "channel c x", traffic=True)
        self.misplaced_behind(["hears a", "clocks t"], "channel c x", traffic=True)
        self.misplaced_behind(["hears a", "state a"], "channel c x", traffic=True)
        self.assert_error("channel c x", Misplaced, 1, traffic=True)

    def test_a_ban_in_the_text_of_a_machine_that_is_no_traffic_machine(self):
        self.misplaced_behind(["hears a", "state a"], "ban a a")
        self.misplaced_behind(["hears a", "state a", "rule a a a"], "ban a a")
        self.assert_error("hears a\nstate a\nban a a", Misplaced, 3)
        with self.assertRaises(Misplaced):
            parse_machine("hears a\nstate a\nban a a", traffic=False)

    def test_no_state(self):
        for traffic in (False, True):
            self.assert_error("hears a", Misplaced, 2, traffic=traffic)
            self.assert_error("hears a\nclocks t", Misplaced, 3, traffic=traffic)
        self.assert_error("hears a\nclocks t\nchannel c x\nchannel d x", Misplaced, 5)


class RepeatedTest(TextCase):
    def test_channels(self):
        text = "hears a\nchannel c x\nchannel d x\n"
        self.assert_error(text + "channel c y\nstate a", Repeated, 4, "c")
        self.assert_error(text + "channel d y\nstate a", Repeated, 4, "d")

    def test_states(self):
        for traffic in (False, True):
            self.assert_error("hears a\nstate s1\nstate s2\nstate s1", Repeated, 4, "s1", traffic=traffic)
            self.assert_error("hears a\nstate s1\nstate s2\nstate s2", Repeated, 4, "s2", traffic=traffic)

    def test_names_of_different_kinds_may_be_equal(self):
        machine = parse_machine("hears a\nclocks a\nchannel a a\nchannel b a\nstate a\nstate b")
        self.assertEqual(machine, Machine(("a",), ("a",), (("a", ("a",)), ("b", ("a",))), ("a", "b"), ()))


class UnknownTest(TextCase):
    def test_the_first_unknown_part_from_left_to_right(self):
        line = "rule q1 q q2 when qa under 5 when qb from 6 reset qc reset qd emit qe lit emit qf lit"
        known = (
            ("q1", "a"),
            ("q", "on"),
            ("q2", "b2"),
            ("qa", "t"),
            ("qb", "u"),
            ("qc", "t"),
            ("qd", "u"),
            ("qe", "lamp"),
            ("qf", "lamp"),
        )
        for word, name in known:
            self.assert_error(HEAD + "\n" + line, Unknown, 7, word)
            line = line.replace(f" {word} ", f" {name} ", 1)
        parse_machine(HEAD + "\n" + line)

    def test_bans_and_rules_of_traffic(self):
        line = "ban q1 q when qa under 5 when qb from 6"
        for word, name in (("q1", "a"), ("q", "on"), ("qa", "t"), ("qb", "u")):
            self.assert_error(TRAFFIC_HEAD + "\n" + line, Unknown, 5, word, traffic=True)
            line = line.replace(f" {word} ", f" {name} ", 1)
        parse_machine(TRAFFIC_HEAD + "\n" + line, traffic=True)
        self.assert_error(TRAFFIC_HEAD + "\nrule a on q", Unknown, 5, "q", traffic=True)
        self.assert_error(TRAFFIC_HEAD + "\nrule a on a reset q", Unknown, 5, "q", traffic=True)
        self.assert_error(TRAFFIC_HEAD + "\nrule a on a emit lamp lit", Unknown, 5, "lamp", traffic=True)

    def test_a_signal_belongs_to_the_channel_before_it(self):
        self.assert_error(HEAD + "\nrule a on a emit lamp ding", Unknown, 7, "ding")
        self.assert_error(HEAD + "\nrule a on a emit bell lit", Unknown, 7, "lit")
        self.assert_error(HEAD + "\nrule a on a emit lamp lamp", Unknown, 7, "lamp")
        self.assert_error(HEAD + "\nrule a on a emit lamp lit emit bell dark", Unknown, 7, "dark")
        self.assert_error(HEAD + "\nrule a on a emit ding ding", Unknown, 7, "ding")

    def test_a_name_of_another_kind_is_unknown(self):
        self.assert_error(HEAD + "\nrule lamp on a", Unknown, 7, "lamp")
        self.assert_error(HEAD + "\nrule a a a", Unknown, 7, "a")
        self.assert_error(HEAD + "\nrule a on on", Unknown, 7, "on")
        self.assert_error(HEAD + "\nrule a on a when on under 5", Unknown, 7, "on")
        self.assert_error(HEAD + "\nrule a on a reset lamp", Unknown, 7, "lamp")
        self.assert_error(HEAD + "\nrule a on a emit t lit", Unknown, 7, "t")

    def test_clocks_of_a_machine_without_clocks(self):
        self.assert_error("hears a\nstate a\nrule a a a when t under 5", Unknown, 3, "t")
        self.assert_error("hears a\nstate a\nrule a a a reset tick", Unknown, 3, "tick")

    def test_tick_is_always_an_item(self):
        self.assertEqual(parse_machine("hears a\nstate a\nrule a tick a").rules, ((0, "tick", 0, (), (), ()),))
        self.assert_error(HEAD + "\nrule a tick tick", Unknown, 7, "tick")


class TooManyTest(TextCase):
    def test_channels(self):
        three = "hears a\nchannel c x\nchannel d x\nchannel e x"
        self.assertEqual(len(parse_machine(three + "\nstate a").channels), 3)
        self.assert_error(three + "\nchannel f x\nstate a", TooMany, 5)

    def test_states(self):
        twenty = "hears a" + "".join([f"\nstate s{number}" for number in range(20)])
        for traffic in (False, True):
            self.assertEqual(len(parse_machine(twenty, traffic=traffic).states), 20)
            self.assert_error(twenty + "\nstate t", TooMany, 22, traffic=traffic)

    def test_rules(self):
        most = "hears a\nstate a" + "\nrule a a a" * 200
        self.assertEqual(len(parse_machine(most).rules), 200)
        self.assert_error(most + "\nrule a a a", TooMany, 203)
        self.assert_error(most + "\nrule a a a", TooMany, 203, traffic=True)

    def test_rules_and_bans_together(self):
        most = "hears a\nstate a" + "\nrule a a a\nban a a" * 100
        self.assertEqual(len(parse_machine(most, traffic=True).rules), 200)
        for line in ("rule a a a", "ban a a"):
            self.assert_error(f"{most}\n{line}", TooMany, 203, traffic=True)

    def test_characters(self):
        for traffic in (False, True):
            self.assert_error("a" * 20000, Malformed, 1, traffic=traffic)
            self.assert_error("a" * 20001, TooMany, 0, traffic=traffic)
            self.assert_error("\n" * 20001, TooMany, 0, traffic=traffic)

    def test_a_machine_with_20000_and_with_20001_characters(self):
        machine = parse_machine(text_with(20000))
        self.assertEqual(len(machine.rules), 168)
        self.assertEqual(parse_machine(format_machine(machine)), machine)
        self.assert_error(text_with(20001), TooMany, 0)


class FirstErrorTest(TextCase):
    def test_the_first_line_with_an_error_decides(self):
        self.assert_error("hears a\nstate a\nrule b a a\nnothing", Unknown, 3, "b")
        self.assert_error("hears a\nstate a\nnothing\nrule b a a", Malformed, 3)
        self.assert_error("hears a\nstate a\nstate a\nhears a", Repeated, 3, "a")
        self.assert_error("hears a\nhears a\nstate a\nstate a", Misplaced, 2)
        self.assert_error("nothing\n\nhears a a", Malformed, 1)
        self.assert_error("clocks t\nhears a a", Misplaced, 1)

    def test_an_error_of_a_line_comes_before_a_missing_state(self):
        self.assert_error("hears a\nchannel c x\nchannel c x", Repeated, 3, "c")
        self.assert_error("hears a\nclocks t\n", Malformed, 3)

    def test_malformed_comes_before_misplaced(self):
        self.assert_error("hears a\nhears b b", Malformed, 2)
        self.assert_error("clocks t t", Malformed, 1)
        self.assert_error("hears a\nstate a\nchannel c x x", Malformed, 3)
        self.assert_error("hears a\nchannel c", Malformed, 2, traffic=True)
        self.assert_error("hears a\nstate a\nban a", Malformed, 3)
        self.assert_error("hears a\nrule a a", Malformed, 2)

    def test_malformed_comes_before_unknown(self):
        self.assert_error(HEAD + "\nrule q on a when t under 61", Malformed, 7)
        self.assert_error(TRAFFIC_HEAD + "\nban q on when t", Malformed, 5, traffic=True)

    def test_misplaced_comes_before_repeated(self):
        self.assert_error("hears a\nchannel c x\nstate a\nchannel c x", Misplaced, 4)
        self.assert_error("hears a\nstate a\nrule a a a\nstate a", Misplaced, 4)

    def test_misplaced_comes_before_unknown(self):
        self.assert_error("hears a\nrule q q q", Misplaced, 2)
        self.assert_error("hears a\nstate a\nban q q", Misplaced, 3)
        self.assert_error("rule q q q", Misplaced, 1)

    def test_misplaced_comes_before_too_many(self):
        three = "hears a\nchannel c x\nchannel d x\nchannel e x\nstate a"
        self.assert_error(three + "\nchannel f x", Misplaced, 6)
        twenty = "hears a" + "".join([f"\nstate s{number}" for number in range(20)])
        self.assert_error(twenty + "\nrule s0 a s0\nstate t", Misplaced, 23)
        most = "hears a\nstate a" + "\nrule a a a" * 200
        self.assert_error(most + "\nban a a", Misplaced, 203)

    def test_repeated_comes_before_too_many(self):
        three = "hears a\nchannel c x\nchannel d x\nchannel e x"
        self.assert_error(three + "\nchannel d x", Repeated, 5, "d")
        twenty = "hears a" + "".join([f"\nstate s{number}" for number in range(20)])
        self.assert_error(twenty + "\nstate s7", Repeated, 22, "s7")

    def test_unknown_comes_before_too_many(self):
        most = "hears a\nstate a" + "\nrule a a a" * 200
        self.assert_error(most + "\nrule a a q", Unknown, 203, "q")
        self.assert_error(most + "\nban a q", Unknown, 203, "q", traffic=True)


class ParsedTest(TextCase):
    def test_a_whole_machine(self):
        found = parse_machine(HEAD + "\nrule a on b2 when u under 5 reset t emit bell ding\nrule b2 tick a")
        expected = Machine(
            ("on", "off"),
            ("t", "u"),
            (("lamp", ("lit", "dark")), ("bell", ("lamp", "ding"))),
            ("a", "b2"),
            ((0, "on", 1, ((1, "under", 5),), (0,), ((1, "ding"),)), (1, "tick", 0, (), (), ())),
        )
        self.assertEqual(found, expected)
        self.assertIs(found.__class__, Machine)

    def test_a_whole_traffic_machine(self):
        found = parse_machine(TRAFFIC_HEAD + "\nban b2 off when t from 5\nrule a on b2 reset u", traffic=True)
        expected = Machine(
            ("on", "off"),
            ("t", "u"),
            (),
            ("a", "b2"),
            ((1, "off", None, ((0, "from", 5),), (), ()), (0, "on", 1, (), (1,), ())),
        )
        self.assertEqual(found, expected)

    def test_parsing_again_does_not_change_what_was_returned(self):
        first = parse_machine(HEAD + "\nrule a on b2")
        parse_machine("hears x\nclocks y\nchannel z z\nstate q\nrule q x q")
        self.assertEqual(first, parse_machine(HEAD + "\nrule a on b2"))
        self.assertEqual(first.names, ("on", "off"))


class FormatTest(TextCase):
    def assert_there_and_back(self, text, traffic=False):
        machine = parse_machine(text, traffic=traffic)
        self.assertEqual(format_machine(machine), text)
        self.assertEqual(parse_machine(format_machine(machine), traffic=traffic), machine)

    def test_the_text_of_a_machine(self):
        machine = Machine(
            ("on", "off"),
            ("t", "u"),
            (("lamp", ("lit", "dark")), ("bell", ("ding",))),
            ("a", "b2"),
            (
                (0, "on", 1, ((1, "under", 5), (0, "from", 60)), (1, 0, 1), ((1, "ding"), (0, "dark"))),
                (1, "tick", 0, (), (), ()),
            ),
        )
        text = (
            "hears on off\nclocks t u\nchannel lamp lit dark\nchannel bell ding\nstate a\nstate b2\n"
            "rule a on b2 when u under 5 when t from 60 reset u reset t reset u emit bell ding emit lamp dark\n"
            "rule b2 tick a"
        )
        self.assertEqual(format_machine(machine), text)
        self.assertEqual(parse_machine(text), machine)

    def test_the_text_of_a_traffic_machine(self):
        machine = Machine(
            ("on",),
            ("t",),
            (),
            ("x", "y"),
            (
                (1, "tick", None, ((0, "from", 3), (0, "under", 9)), (), ()),
                (0, "on", 1, (), (0,), ()),
                (0, "on", None, (), (), ()),
            ),
        )
        text = (
            "hears on\nclocks t\nstate x\nstate y\nban y tick when t from 3 when t under 9\n"
            "rule x on y reset t\nban x on"
        )
        self.assertEqual(format_machine(machine), text)
        self.assertEqual(parse_machine(text, traffic=True), machine)

    def test_there_is_no_line_of_clocks_or_channels_without_them(self):
        machine = Machine(("a",), (), (), ("s",), ())
        self.assertEqual(format_machine(machine), "hears a\nstate s")
        self.assertEqual(parse_machine("hears a\nstate s"), machine)
        self.assertEqual(parse_machine("hears a\nstate s", traffic=True), machine)

    def test_machines_made_of_lists(self):
        machine = Machine(["a"], ["t"], [("c", ("x",))], ["s"], [(0, "a", 0, (), (0,), ((0, "x"),))])
        self.assertEqual(parse_machine(format_machine(machine)), machine)

    def test_there_and_back(self):
        self.assert_there_and_back(HEAD)
        self.assert_there_and_back(HEAD + "\nrule a on b2\nrule a on a when t under 1\nrule b2 tick a emit bell lamp")
        self.assert_there_and_back("hears a b c d\nclocks x y z\nstate s\nrule s a s when z from 60 reset y reset y")
        self.assert_there_and_back("hears a\nchannel c w x y z\nchannel d x\nchannel e x\nstate s\nrule s a s emit e x")
        self.assert_there_and_back(TRAFFIC_HEAD, traffic=True)
        self.assert_there_and_back(TRAFFIC_HEAD + "\nban a on\nrule b2 on a\nban b2 tick when u under 9", traffic=True)
        self.assert_there_and_back("hears a\nstate a" + "\nrule a a a\nban a a" * 100, traffic=True)

    def test_the_machine_stays_as_it_was(self):
        machine = parse_machine(HEAD + "\nrule a on b2 when t under 5 emit lamp lit")
        format_machine(machine)
        self.assertEqual(machine, parse_machine(HEAD + "\nrule a on b2 when t under 5 emit lamp lit"))


class ExampleTest(TextCase):
    """The part of the document's example that machines and their texts answer."""

    def test_the_lamp_and_its_turns(self):
        lamp = "hears on off\nchannel lamp lit dark\nstate a\nstate b"
        lamp = lamp + "\nrule a on b emit lamp lit\nrule b off a emit lamp dark"
        turns = "hears on off\nstate x\nstate y"
        turns = turns + "\nrule x on y\nban x off\nrule y off x\nban y on"
        program = parse_machine(lamp)
        traffic = parse_machine(turns, traffic=True)
        self.assertEqual(run(program, ["on", "off"]), ((0, ()), [["lit", "dark"]]))
        self.assertEqual(run(program, ["off", "on"]), ((1, ()), [["lit"]]))
        self.assertIs(permitted(traffic, ["on", "off", "tick", "on"]), True)
        self.assertIs(permitted(traffic, ["off"]), False)
        self.assertIs(permitted(traffic, ["on", "on"]), False)
        self.assertEqual(format_machine(program), lamp)
        self.assertEqual(format_machine(traffic), turns)


if __name__ == "__main__":
    unittest.main()
