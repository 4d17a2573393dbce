"""Runs the examples of the document, written as in an interpreter."""

import handshaker.errors


def run_example(case, text, names=None):
    """Run an example word for word; return the names that it leaves behind.

    A line `>>> ..` is run. The line behind it, if there is one, is what the
    interpreter shows, or `raises CLASS`.
    """
    names = {} if names is None else names
    rows = text.strip("\n").split("\n")
    place = 0
    while place < len(rows):
        case.assertTrue(rows[place].startswith(">>> "), rows[place])
        source = rows[place][4:]
        place += 1
        if place == len(rows) or rows[place].startswith(">>> "):
            exec(source, names)
            continue
        expected = rows[place]
        place += 1
        if expected.startswith("raises "):
            wanted = getattr(handshaker.errors, expected[len("raises "):])
            with case.assertRaises(wanted) as caught:
                eval(source, names)
            case.assertIs(caught.exception.__class__, wanted)
        else:
            case.assertEqual(repr(eval(source, names)), expected, source)
    return names
