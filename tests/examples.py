"""Cases that several tests use."""

from latecoming.cases import Case, Delays
from latecoming.machines import Machine
from latecoming.texts import parse_machine

NAMES = ("a", "b")

# A lamp and the traffic that turns it on and off by turns: the document's example.
LAMP = "hears on off\nchannel lamp lit dark\nstate a\nstate b"
LAMP += "\nrule a on b emit lamp lit\nrule b off a emit lamp dark"
TURNS = "hears on off\nstate x\nstate y\nrule x on y\nban x off\nrule y off x\nban y on"


def case_of(program, traffic, *views, quiet=0):
    """Returns a case of two texts."""
    return Case(parse_machine(program), views, parse_machine(traffic, traffic=True), quiet)


def lamp_case(view="ordered", quiet=0):
    return case_of(LAMP, TURNS, view, quiet=quiet)


def echo_case(traffic="", view="ordered", quiet=0):
    """Returns a case in which the program writes down each message a or b that it hears."""
    program = "hears a b\nchannel c x y\nstate s\nrule s a s emit c x\nrule s b s emit c y"
    return case_of(program, "hears a b\nstate s" + traffic, view, quiet=quiet)


def delays(late, lost="", twice=""):
    """Returns delays for the names a and b."""
    return Delays(NAMES, late, tuple(lost), tuple(twice))


def read_events(text):
    """Returns the events of a text: `a once, tick, a came 0, stop` and so on."""
    events = []
    for words in [part.split() for part in text.split(",") if part.strip()]:
        if words == ["tick"]:
            events.append(("tick",))
        elif words == ["stop"]:
            events.append(("stopped",))
        elif words[1] == "came":
            events.append(("came", words[0], int(words[2])))
        else:
            events.append(("sent", words[0], words[1]))
    return events


def round_of(letter, ticks):
    """Returns the states and rules of a machine that returns to its start after so many ticks."""
    lengths = [60] * (ticks // 60) + [ticks % 60] * (ticks % 60 > 0)
    states, rules = "", ""
    for at, length in enumerate(lengths):
        states += f"\nstate {letter}{at}"
        rules += f"\nrule {letter}{at} tick {letter}{(at + 1) % len(lengths)} when t from {length} reset t"
    return states, rules


def turning_case(program_ticks, traffic_ticks):
    """Returns a case in which nothing is ever sent, and both machines turn round."""
    states, rules = round_of("p", program_ticks)
    program = "hears a\nclocks t" + states + rules
    states, rules = round_of("x", traffic_ticks)
    bans = "".join(f"\nban x{at} a" for at in range(states.count("state")))
    return case_of(program, "hears a\nclocks t" + states + rules + bans)


def waiting_traffic(ticks):
    """Returns the text of traffic in which an a may be sent only after so many ticks, and no tick after it."""
    states, rules = round_of("x", ticks)
    many = states.count("state")
    end = rules.rindex("tick x0") + len("tick x")
    rules = rules[:end] + str(many) + rules[end + 1:]
    bans = "".join(f"\nban x{at} a" for at in range(many)) + f"\nban x{many} tick"
    return f"hears a\nclocks t{states}\nstate x{many}{rules}{bans}"


def waiting_case(ticks):
    """Returns a case in which each message shows; see waiting_traffic."""
    return case_of("hears a\nchannel c x\nstate s\nrule s a s emit c x", waiting_traffic(ticks), "ordered")


def row_of(name, many):
    """Returns the text of traffic in which the one name is sent so many times at most."""
    states = "".join(f"\nstate x{at}" for at in range(many + 1))
    rules = "".join(f"\nrule x{at} {name} x{at + 1}" for at in range(many))
    return f"hears {name}{states}{rules}\nban x{many} {name}"


def chosen_machine(chance, names, is_traffic):
    """Returns a machine in which everything that a machine may have occurs at times."""
    clocks = ("t", "u", "v")[:chance.randint(0, 3)]
    channels = () if is_traffic else (("c", "xyz"), ("d", "yx"), ("e", "wxyz"))[:chance.randint(0, 3)]
    channels = tuple((name, tuple(signals)) for name, signals in channels)
    states = ("s", "t", "u", "v")[:chance.randint(1, 4)]
    rules = []
    for _ in range(chance.randint(0, 12)):
        head = (chance.randrange(len(states)), chance.choice(names + ("tick",)))
        conditions = tuple(chosen_condition(chance, clocks) for _ in range(chance.randint(0, 2)) if clocks)
        if is_traffic and chance.random() < 0.5:
            rules.append((*head, None, conditions, (), ()))
            continue
        resets = tuple(chance.randrange(len(clocks)) for _ in range(chance.randint(0, 2)) if clocks)
        signals = tuple(chosen_signal(chance, channels) for _ in range(chance.randint(0, 3)) if channels)
        rules.append((*head, chance.randrange(len(states)), conditions, resets, signals))
    return Machine(names, clocks, channels, states, rules)


def chosen_condition(chance, clocks):
    return chance.randrange(len(clocks)), chance.choice(("under", "from")), chance.randint(1, 4)


def chosen_signal(chance, channels):
    channel = chance.randrange(len(channels))
    return channel, chance.choice(channels[channel][1])


def chosen_case(chance):
    """Returns a case and delays in which everything that they may have occurs at times."""
    names = ("b", "a", "d", "c")[:chance.choice((1, 1, 1, 2, 2, 3, 4))]
    program = chosen_machine(chance, names, False)
    traffic = chosen_machine(chance, names, True)
    views = [chance.choice(("ordered", "unordered", "ignored")) for _ in program.channels]
    late = [chance.choice((0, 0, 1, 1, 2, 3, 9)) for _ in names]
    lost = [name for name in names if chance.random() < 0.2]
    twice = [name for name in names if chance.random() < 0.2]
    return Case(program, views, traffic, chance.choice((0, 0, 1, 2, 5, 60))), Delays(names, late, lost, twice)
