"""Runs the examples of the interface, which are written like sessions."""

from saggar import errors


def steps_of(text):
    """Returns the list of the pairs (source, expected output) of a session."""
    steps = []
    for line in text.strip().splitlines():
        if line.startswith(">>> "):
            steps.append([line[4:], []])
        else:
            steps[-1][1].append(line)
    return [(source, "\n".join(lines)) for source, lines in steps]


def run_session(case, text):
    """Runs a session step by step and compares what comes out."""
    names = {}
    for source, expected in steps_of(text):
        with case.subTest(source=source):
            if expected.startswith("raises "):
                check_error(case, source, expected[len("raises "):], names)
            else:
                case.assertEqual(output_of(source, names), expected)


def output_of(source, names):
    """Runs one line; returns what a session would show."""
    try:
        code = compile(source, "example", "eval")
    except SyntaxError:
        exec(source, names)
        return ""
    value = eval(code, names)
    return "" if value is None else repr(value)


def check_error(case, source, expected, names):
    """Runs one line that must raise an error, with the fields that it tells."""
    kind = getattr(errors, expected.split("(")[0])
    with case.assertRaises(kind) as caught:
        output_of(source, names)
    case.assertIs(type(caught.exception), kind)
    if "(" in expected:
        wanted = eval(expected, vars(errors).copy())
        case.assertEqual(vars(caught.exception), vars(wanted))
