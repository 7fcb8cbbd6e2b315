"""What several tests share."""

import importlib

from goodsigns.bounds import Bound
from goodsigns.errors import SignsError
from goodsigns.papers import Denial, Paper
from goodsigns.polys import Poly
from goodsigns.webs import Web


class Strange:
    """A value that says it equals everything."""

    def __eq__(self, other):
        return True


def no_integers():
    """Values of every kind but integers."""
    return [None, True, False, 1.0, 0.5, 1j, "", "1", "a", b"1", [], [1], (), (1,), {}, {1: 1}, {1}, range(2), object(),
            Strange(), len, int, Paper("note", 1), Denial("no"), Bound(1, 0, 0), Poly([1]), Web(1, []), SignsError()]


def no_integer_lists():
    """Values of every kind but lists and tuples of integers."""
    kinds = [each for each in no_integers() if each not in ([], [1], (), (1,)) or isinstance(each, Strange)]
    inside = [[1, each] for each in no_integers()] + [(each, 1) for each in no_integers()]
    return kinds + [0, 1, 7] + inside


def no_kind(kind):
    """Values of every kind but this class."""
    return [each for each in no_integers() + [0, 1, [1, 2], "1 2 3"] if not isinstance(each, kind)]


def raised(function, *told, **named):
    """The error that a call raises, None if it raises none."""
    try:
        function(*told, **named)
    except SignsError as error:
        return error
    return None


def fields_of(error):
    """The fields of an error, with the kinds of their values."""
    return {name: (type(value), value) for name, value in vars(error).items()}


def check_raises(case, error, function, *told, **named):
    """Check that a call raises just this error, its fields of the same kinds, too."""
    found = raised(function, *told, **named)
    case.assertIs(type(found), type(error), msg=f"{function.__name__} of {told!r:.200} {named!r:.200}")
    case.assertEqual(fields_of(found), fields_of(error), msg=f"{function.__name__} of {told!r:.200} {named!r:.200}")


def check_same(case, found, wanted):
    """Check that two values are equal and of one kind, so that True is not 1."""
    case.assertIs(type(found), type(wanted))
    case.assertEqual(found, wanted)


def every_name(module):
    """What a module offers, by its names."""
    return dict(vars(importlib.import_module(module)))


def shown(error):
    """An error as the document writes it."""
    return f"{type(error).__name__}({', '.join(repr(value) for value in vars(error).values())})"


def run_examples(case, text, kept):
    """Run examples as the document writes them, and return how many there were."""
    steps = []
    for line in text.splitlines():
        if line.startswith(">>> "):
            steps.append([line[4:], []])
        else:
            steps[-1][1].append(line)
    for source, wanted in steps:
        run_example(case, source, "\n".join(wanted), kept)
    return len(steps)


def run_example(case, source, wanted, kept):
    """Run one example and check what it gives."""
    if not wanted:
        exec(source, kept)
        return
    if not wanted.startswith("raises "):
        case.assertEqual(repr(eval(source, kept)), wanted, msg=source)
        return
    try:
        eval(source, kept)
    except SignsError as error:
        case.assertIn(wanted.removeprefix("raises "), [shown(error), type(error).__name__], msg=source)
        return
    case.fail(f"{source} raised nothing")
