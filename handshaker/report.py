"""Reports of machines, of their records, and of the ends of programs."""

from handshaker.explore import explore
from handshaker.world import TICK


def machine_report(program, machine):
    """Return the report of a machine, a list of lines."""
    stages, ticks, said = machine.stages(), machine.ticks(), machine.said()
    lines = [_line(["memory", *machine.memory()])]
    for number, thread in enumerate(program.threads):
        left = ["ticks", ticks[number]] if ticks[number] > 0 else []
        lines.append(_line(["thread", thread.name, stages[number], *left, *_row("said", said[number])]))
    if machine.is_at_rest():
        lines.append("rest")
    return lines


def records_report(program, records):
    """Return the report of a list of records, a line for each."""
    return [_line_of_record(program.threads[record.thread].name, record) for record in records]


def _line_of_record(name, record):
    stamp = ["stamp", record.stamp] if record.kind == "done" else []
    reads = _row("reads", _pairs(record.reads))
    writes = _row("writes", _pairs(record.writes))
    return _line([name, record.kind, record.begun, record.ended, *stamp, *reads, *writes])


def _pairs(values):
    return [f"{cell}={values[cell]}" for cell in sorted(list(values))]


def ends_report(program):
    """Return the report of all ends, a line for each."""
    names = [thread.name for thread in program.threads]
    return [_line_of_end(names, end, order) for end, order in explore(program)]


def _line_of_end(names, end, order):
    memory, ends, said = end
    words = ["end", *memory]
    for number, name in enumerate(names):
        words.extend([name, *ends[number], *_row("said", said[number])])
    steps = ["t" if step == TICK else step for step in order]
    return _line([*words, *_row("by", steps)])


def _row(word, values):
    """Return the word and the values behind it, or nothing if there are none."""
    return [word, *values] if len(values) > 0 else []


def _line(words):
    return " ".join([str(word) for word in words])
