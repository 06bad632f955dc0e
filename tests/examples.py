"""Runs the examples of the document, as they stand there."""

from everydecider import errors


def run_examples(case, text, names):
    """Check each `>>>` line of a text against the line below it.

    A line without one below is executed, and the names it assigns are kept.
    """
    names = dict(names)
    lines = [line.strip() for line in text.strip().split("\n")]
    for place, line in enumerate(lines):
        if not line.startswith(">>> "):
            continue
        below = lines[place + 1] if place + 1 < len(lines) else ">>> "
        code = line.removeprefix(">>> ")
        with case.subTest(code=code):
            if below.startswith(">>> "):
                exec(code, names)
            elif below.startswith("raises "):
                expected = eval(below.removeprefix("raises "), vars(errors).copy())
                expect_error(case, expected, lambda: eval(code, names))
            else:
                case.assertEqual(repr(eval(code, names)), below)


def expect_error(case, expected, deed):
    """Check that a deed raises an error of this very class with these attributes."""
    with case.assertRaises(errors.DeciderError) as caught:
        deed()
    case.assertIs(caught.exception.__class__, expected.__class__)
    case.assertEqual(kinds(vars(caught.exception)), kinds(vars(expected)))


def kinds(attributes):
    """Attributes with their kinds, as True == 1 for Python."""
    return {name: (value.__class__, value) for name, value in attributes.items()}
