"""What a desk does with its lines, and what it keeps."""

from handshaker.errors import Refused, TextError, TooLarge
from handshaker.machine import TICK, Machine, stamped
from handshaker.orders import have_pasts, is_order
from handshaker.reader import read_program
from handshaker.report import ends_report, machine_report, records_report
from handshaker.values import first_memory

MOST_ROWS = 200
MOST_STRIPES = 64
MOST_SETTLED = 10000
# The least and the greatest number of words.
COUNTS = {
    "drop": (1, 1),
    "load": (2, 2),
    "step": (2, 61),
    "settle": (2, 2),
    "show": (1, 1),
    "records": (1, 1),
    "check": (1, 1),
    "ends": (1, 1),
    "again": (1, 1),
}
WITHOUT_PROGRAM = ("drop", "load")


class Kept:
    """What a desk keeps."""

    def __init__(self):
        self.draft = []
        self.picks = []
        # None until a program has been loaded.
        self.program = None
        self.machine = None
        self.stripes = 0


def do_line(kept, line):
    """Do what a line says; return the answer, or raise Refused, and then nothing has changed."""
    word, _, behind = line.partition(" ")
    if word == "text":
        return _text(kept, behind)
    words = line.split(" ")
    if word not in COUNTS or "" in words:
        raise Refused("word")
    least, most = COUNTS[word]
    if len(words) < least or len(words) > most:
        raise Refused("count")
    if kept.program is None and word not in WITHOUT_PROGRAM:
        raise Refused("none")
    action = ACTIONS[word]
    return action(kept, words[1:])


def _text(kept, row):
    if len(kept.draft) == MOST_ROWS:
        raise Refused("full")
    kept.draft.append(row)
    return [f"lines {len(kept.draft)}"]


def _drop(kept, _):
    kept.draft = []
    return ["dropped"]


def _load(kept, words):
    stripes = _number(words[0], 1, MOST_STRIPES)
    if stripes is None:
        raise Refused("number")
    try:
        # Each line of the draft is a line of the text, an empty one at the end, too.
        program = read_program("".join([row + "\n" for row in kept.draft]))
    except TextError as error:
        raise Refused(f"text {error.line} {error.column} {error.reason}") from None
    except TooLarge:
        raise Refused("large") from None
    kept.draft = []
    kept.picks = []
    kept.program = program
    kept.machine = Machine(program, stripes=stripes)
    kept.stripes = stripes
    return [f"loaded {len(program.threads)} {len(first_memory(program.cells))}"]


def _step(kept, words):
    last = len(kept.program.threads) - 1
    picks = [TICK if word == "t" else _number(word, 0, last) for word in words]
    if None in picks:
        raise Refused("pick")
    kept.picks.extend(picks)
    return [f"did {kept.machine.run(picks)}"]


def _settle(kept, words):
    most = _number(words[0], 1, MOST_SETTLED)
    if most is None:
        raise Refused("number")
    picks = kept.machine.settle(most=most)
    kept.picks.extend(picks)
    return [f"did {len(picks)}"]


def _number(word, least, greatest):
    """Return the number that a word is, or None if it is none from the least to the greatest."""
    if not word.isdigit() or (word[0] == "0" and len(word) > 1):
        return None
    number = int(word)
    return number if least <= number <= greatest else None


def _show(kept, _):
    return machine_report(kept.program, kept.machine)


def _records(kept, _):
    return records_report(kept.program, kept.machine.records())


def _check(kept, _):
    memory = first_memory(kept.program.cells)
    records = kept.machine.records()
    places = {record: at for at, record in enumerate(records)}
    order = [places[record] for record in stamped(records)]
    serial = _yes_or_no(is_order(memory, records, order))
    return ["serial " + serial, "past " + _yes_or_no(have_pasts(memory, records, order))]


def _yes_or_no(holds):
    return "yes" if holds else "no"


def _ends(kept, _):
    try:
        return ends_report(kept.program)
    except TooLarge:
        raise Refused("large") from None


def _again(kept, _):
    machine = Machine(kept.program, stripes=kept.stripes)
    machine.run(kept.picks)
    return ["same" if _run_of(machine) == _run_of(kept.machine) else "other"]


def _run_of(machine):
    """Return all that counts of a machine's run."""
    records = [
        (one.thread, one.begun, one.ended, one.kind, one.reads, one.writes, one.stamp) for one in machine.records()
    ]
    return [machine.memory(), machine.stages(), machine.said(), records]


ACTIONS = {
    "drop": _drop,
    "load": _load,
    "step": _step,
    "settle": _settle,
    "show": _show,
    "records": _records,
    "check": _check,
    "ends": _ends,
    "again": _again,
}
