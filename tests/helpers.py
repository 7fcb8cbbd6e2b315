"""What several tests share."""

import importlib
import itertools

from goodsigns.bounds import Bound, added, multiplied
from goodsigns.errors import SignsError
from goodsigns.papers import Denial, Paper
from goodsigns.polys import Poly
from goodsigns.reals import within
from goodsigns.webs import Web


class Strange:
    """A value that says it equals everything."""

    def __eq__(self, other):
        return True


def no_integers():
    """Values of every kind but integers."""
    return [None, True, False, 1.0, 0.5, 1j, "", "1", "a", b"1", [], [1], (), (1,), {}, {1: 1}, {1}, range(2), object(),
            Strange(), len, int, Paper("note", 1), Denial("no"), Bound(1, 0, 0), Poly([1]), Web(1, []), SignsError()]


def no_integer_lists():
    """Values of every kind but lists and tuples of integers."""
    kinds = [each for each in no_integers() if each not in ([], [1], (), (1,)) or isinstance(each, Strange)]
    inside = [[1, each] for each in no_integers()] + [(each, 1) for each in no_integers()]
    return kinds + [0, 1, 7] + inside


def ring_of(places, start=0):
    """The ties of a ring of so many places from a first one on."""
    return [(start + at, start + (at + 1) % places) for at in range(places)]


def drawn_web(draw, places, share):
    """A web with a drawn share of all ties, told in any order, either place first."""
    ties = [tie for tie in itertools.combinations(range(places), 2) if draw.random() < share]
    draw.shuffle(ties)
    return Web(places, [draw.choice([list, tuple])(draw.choice([tie, tie[::-1]])) for tie in ties])


def reached(web, place):
    """The places to which ties lead from a place, ascending."""
    found = {place}
    for _ in range(web.places):
        found |= {b for a, b in web.ties if a in found} | {a for a, b in web.ties if b in found}
    return tuple(sorted(found))


def row_of(places, start=0):
    """The ties of a row of so many places from a first one on."""
    return [(at, at + 1) for at in range(start, start + places - 1)]


def bush_of(places, branches):
    """The ties of a bush: each place but the first has one place below it, none more than so many above it."""
    return [((at - 1) // branches, at) for at in range(1, places)]


def full(places, start=0):
    """All ties of so many places from a first one on."""
    return list(itertools.combinations(range(start, start + places), 2))


def across(many, others):
    """All ties between so many places and so many others behind them."""
    return [(one, many + other) for one in range(many) for other in range(others)]


def cube():
    """The ties of a cube."""
    return [(at, at + step) for step in (1, 2, 4) for at in range(8) if not at & step]


def renamed(draw, web):
    """The web with its places in a drawn order."""
    names = draw.sample(range(web.places), web.places)
    return Web(web.places, [(names[one], names[other]) for one, other in web.ties])


def drawn_tree(draw, places):
    """A web of one piece without a ring."""
    names = draw.sample(range(places), places)
    return Web(places, [(names[at], names[draw.randrange(at)]) for at in range(1, places)])


def rings_of(web):
    """All rings of a web, each told once: from its least place, the lesser of its neighbours there next."""
    found, rows = [], [(place,) for place in range(web.places)]
    while rows:
        rows = [row + (near,) for row in rows for near in web.neighbours(row[-1]) if near > row[0] and near not in row]
        found += [row for row in rows if len(row) > 2 and row[0] in web.neighbours(row[-1]) and row[1] < row[-1]]
    return found


def turned_rings(ring):
    """A ring told from each of its places, either way round."""
    both = [tuple(ring), tuple(ring)[::-1]]
    return [row[at:] + row[:at] for row in both for at in range(len(row))]


def along(web, signs, ring):
    """The product of signs along a ring."""
    told = dict(zip(web.ties, signs))
    found = 1
    for one, other in zip(ring, ring[1:] + ring[:1]):
        found *= told[min(one, other), max(one, other)]
    return found


def numbers_by_traces(table):
    """The numbers of the poly of a table, by the sums of the integers on the diagonals of its powers."""
    places = range(len(table))
    numbers, sums, power = [1], [], [list(row) for row in table]
    for k in range(1, len(table) + 1):
        sums.append(sum([power[i][i] for i in places]))
        total = sum([number * its for number, its in zip(numbers, sums[::-1])])
        assert total % k == 0
        numbers.append(-total // k)
        power = [[sum([row[m] * table[m][j] for m in places]) for j in places] for row in power]
    return tuple(numbers)


def product_numbers(one, other):
    """The numbers of the product of two polynomials."""
    found = [0] * (len(one) + len(other) - 1)
    for i, j in itertools.product(range(len(one)), range(len(other))):
        found[i + j] += one[i] * other[j]
    return tuple(found)


def numbers_of_lot(rows, many, length):
    """The numbers of the poly of a lot of these rows, by traces."""
    places = range(length)
    return numbers_by_traces([[many * sum([row[i] * row[j] for row in rows]) for j in places] for i in places])


def numbers_of_dealings(rows, many, dealt):
    """The numbers of the sum of dealings, by all ways to give each free vector a lot."""
    sums = None
    for lots in itertools.product(*[range(many) if lot is None else (lot,) for lot in dealt]):
        found = (1,)
        for each in range(many):
            found = product_numbers(found, numbers_of_lot([row for row, lot in zip(rows, lots) if lot == each], many, len(rows[0])))
        sums = found if sums is None else [one + other for one, other in zip(sums, found)]
    return tuple(sums)


def rest_numbers(renamings):
    """The numbers of the rest poly of a round, divided step by step."""
    size, many = len(renamings[0]), len(renamings)
    table = [[sum([each[i] == j for each in renamings]) for j in range(size)] for i in range(size)]
    square = [[sum([a * b for a, b in zip(one, other)]) for other in table] for one in table]
    found = []
    for number in numbers_by_traces(square):
        found.append(number + (many * many * found[-1] if found else 0))
    assert found[-1] == 0
    return tuple(found[:-1])


def numbers_of_signs(web, signs):
    """The numbers of the poly of signs, by traces."""
    told = dict(zip(web.ties, signs))
    places = range(web.places)
    return numbers_by_traces([[told.get((min(i, j), max(i, j)), 0) for j in places] for i in places])


def mean_numbers_by_signs(web, signs):
    """The numbers of a mean, by the polys of all signs that are left."""
    left = list(itertools.product(*[(sign,) if sign else (1, -1) for sign in signs]))
    sums = [sum(numbers) for numbers in zip(*[numbers_of_signs(web, each) for each in left])]
    assert all([number % len(left) == 0 for number in sums])
    return tuple([number // len(left) for number in sums])


def all_signs(web, values=(1, -1)):
    """All rows with one of these values for each tie."""
    return list(itertools.product(values, repeat=len(web.ties)))


def drawn_signs(draw, web, values=(1, -1)):
    """A row with a drawn value for each tie, as a list or a tuple."""
    return draw.choice([list, tuple])([draw.choice(values) for _ in web.ties])


def drawn_vectors(draw, length, many):
    """Rows of this length, so many, whose tables add up; some are of zeros, some stand twice, some are mirrored."""
    groups = {1: [[(1,)]], 2: [[(1, 0), (0, 1)], [(3, 4), (4, -3)], [(2, -1), (1, 2)]],
              3: [[(1, 0, 0), (0, 1, 0), (0, 0, 1)], [(1, 2, 2), (2, 1, -2), (2, -2, 1)]]}[length]
    rows = []
    while len(rows) + length <= many and (not rows or draw.random() < 0.8):
        times = draw.choice([1, 1, 2, -1, 3, 10 ** 9])
        rows += [[times * number for number in row] for row in draw.choice(groups)]
    rows += [[0] * length for _ in range(many - len(rows))]
    return draw.sample(rows, many)


def drawn_bound(draw, web):
    """A bound near the greatest roots of a web."""
    return Bound(draw.randint(-2, web.most), draw.choice((0, 1, 1, -1, 2)), draw.choice((0, 1, 2, 3, 5, 7)))


def beside(bound, under, way):
    """A bound that is just above another one, or just below it: by a high power of the next integer less the root."""
    step = 1
    while step * step < under:
        step += 1
    little = Bound(1, 0, under)
    for _ in range(40):
        little = multiplied(little, Bound(step, -1, under))
    return added(bound, multiplied(Bound(way, 0, under), little))


def bounds_about(poly):
    """A bound just below the greatest root of a poly whose roots are all real, and one just above it."""
    far = 10 ** 6
    least, most = 0, 4 * far * far
    assert not within(poly, Bound(-far, 1, least))
    while not within(poly, Bound(-far, 1, most)):
        most = 4 * most
    while most - least > 1:
        middle = (least + most) // 2
        least, most = (least, middle) if within(poly, Bound(-far, 1, middle)) else (middle, most)
    return Bound(-far, 1, least), Bound(-far, 1, most)


def no_signs(web, is_free):
    """Values that are no signs of a web, which has three ties or more."""
    right = [1 - 2 * (at % 2) for at in range(len(web.ties))]
    wrong = no_integers() + [2, -2, 3, 10 ** 70] + ([] if is_free else [0])
    bent = [right[:at] + [value] + right[at + 1:] for at in (0, 1, len(right) - 1) for value in wrong]
    rows = bent + [right[:-1], right + [1], right + [0], [right], [right] * len(right), {at: 1 for at in range(len(right))}]
    return no_integers() + [0, 1, 7, "1" * len(right), set(right), iter(right)] + rows + [tuple(row) for row in bent]


def no_kind(kind):
    """Values of every kind but this class."""
    return [each for each in no_integers() + [0, 1, [1, 2], "1 2 3"] if not isinstance(each, kind)]


def raised(function, *told, **named):
    """The error that a call raises, None if it raises none."""
    try:
        function(*told, **named)
    except SignsError as error:
        return error
    return None


def fields_of(error):
    """The fields of an error, with the kinds of their values."""
    return {name: (type(value), value) for name, value in vars(error).items()}


def check_raises(case, error, function, *told, **named):
    """Check that a call raises just this error, its fields of the same kinds, too."""
    found = raised(function, *told, **named)
    case.assertIs(type(found), type(error), msg=f"{function.__name__} of {told!r:.200} {named!r:.200}")
    case.assertEqual(fields_of(found), fields_of(error), msg=f"{function.__name__} of {told!r:.200} {named!r:.200}")


def check_same(case, found, wanted):
    """Check that two values are equal and of one kind, so that True is not 1."""
    case.assertIs(type(found), type(wanted))
    case.assertEqual(found, wanted)


def every_name(module):
    """What a module offers, by its names."""
    return dict(vars(importlib.import_module(module)))


def shown(error):
    """An error as the document writes it."""
    return f"{type(error).__name__}({', '.join(repr(value) for value in vars(error).values())})"


def run_examples(case, text, kept):
    """Run examples as the document writes them, and return how many there were."""
    steps = []
    for line in text.splitlines():
        if line.startswith(">>> "):
            steps.append([line[4:], []])
        else:
            steps[-1][1].append(line)
    for source, wanted in steps:
        run_example(case, source, "\n".join(wanted), kept)
    return len(steps)


def run_example(case, source, wanted, kept):
    """Run one example and check what it gives."""
    if not wanted:
        exec(source, kept)
        return
    if not wanted.startswith("raises "):
        case.assertEqual(repr(eval(source, kept)), wanted, msg=source)
        return
    try:
        eval(source, kept)
    except SignsError as error:
        case.assertIn(wanted.removeprefix("raises "), [shown(error), type(error).__name__], msg=source)
        return
    case.fail(f"{source} raised nothing")
