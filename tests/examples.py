"""Cases that several tests use."""

from latecoming.cases import Case, Delays
from latecoming.machines import Machine
from latecoming.texts import parse_machine

NAMES = ("a", "b")

# A lamp and the traffic that turns it on and off by turns: the document's example.
LAMP = "hears on off\nchannel lamp lit dark\nstate a\nstate b"
LAMP += "\nrule a on b emit lamp lit\nrule b off a emit lamp dark"
TURNS = "hears on off\nstate x\nstate y\nrule x on y\nban x off\nrule y off x\nban y on"


def case_of(program, traffic, *views, quiet=0):
    """Returns a case of two texts."""
    return Case(parse_machine(program), views, parse_machine(traffic, traffic=True), quiet)


def lamp_case(view="ordered", quiet=0):
    return case_of(LAMP, TURNS, view, quiet=quiet)


def echo_case(traffic="", view="ordered", quiet=0):
    """Returns a case in which the program writes down each message a or b that it hears."""
    program = "hears a b\nchannel c x y\nstate s\nrule s a s emit c x\nrule s b s emit c y"
    return case_of(program, "hears a b\nstate s" + traffic, view, quiet=quiet)


def delays(late, lost="", twice=""):
    """Returns delays for the names a and b."""
    return Delays(NAMES, late, tuple(lost), tuple(twice))


def read_events(text):
    """Returns the events of a text: `a once, tick, a came 0, stop` and so on."""
    events = []
    for words in [part.split() for part in text.split(",") if part.strip()]:
        if words == ["tick"]:
            events.append(("tick",))
        elif words == ["stop"]:
            events.append(("stopped",))
        elif words[1] == "came":
            events.append(("came", words[0], int(words[2])))
        else:
            events.append(("sent", words[0], words[1]))
    return events


def chosen_machine(chance, names, is_traffic):
    """Returns a machine in which everything that a machine may have occurs at times."""
    clocks = ("t", "u", "v")[:chance.randint(0, 3)]
    channels = () if is_traffic else (("c", "xyz"), ("d", "yx"), ("e", "wxyz"))[:chance.randint(0, 3)]
    channels = tuple((name, tuple(signals)) for name, signals in channels)
    states = ("s", "t", "u", "v")[:chance.randint(1, 4)]
    rules = []
    for _ in range(chance.randint(0, 12)):
        head = (chance.randrange(len(states)), chance.choice(names + ("tick",)))
        conditions = tuple(chosen_condition(chance, clocks) for _ in range(chance.randint(0, 2)) if clocks)
        if is_traffic and chance.random() < 0.5:
            rules.append((*head, None, conditions, (), ()))
            continue
        resets = tuple(chance.randrange(len(clocks)) for _ in range(chance.randint(0, 2)) if clocks)
        signals = tuple(chosen_signal(chance, channels) for _ in range(chance.randint(0, 3)) if channels)
        rules.append((*head, chance.randrange(len(states)), conditions, resets, signals))
    return Machine(names, clocks, channels, states, rules)


def chosen_condition(chance, clocks):
    return chance.randrange(len(clocks)), chance.choice(("under", "from")), chance.randint(1, 4)


def chosen_signal(chance, channels):
    channel = chance.randrange(len(channels))
    return channel, chance.choice(channels[channel][1])


def chosen_case(chance):
    """Returns a case and delays in which everything that they may have occurs at times."""
    names = ("b", "a", "d", "c")[:chance.choice((1, 1, 1, 2, 2, 3, 4))]
    program = chosen_machine(chance, names, False)
    traffic = chosen_machine(chance, names, True)
    views = [chance.choice(("ordered", "unordered", "ignored")) for _ in program.channels]
    late = [chance.choice((0, 0, 1, 1, 2, 3, 9)) for _ in names]
    lost = [name for name in names if chance.random() < 0.2]
    twice = [name for name in names if chance.random() < 0.2]
    return Case(program, views, traffic, chance.choice((0, 0, 1, 2, 5, 60))), Delays(names, late, lost, twice)
