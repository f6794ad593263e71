"""What many tests need: values of wrong kinds, how calls are refused, what stays and what is new."""

import copy


class Thing:
    """A value of a kind that the package does not know."""


# Values that are neither INTEGERS nor lists nor tuples.
STRANGE = [None, True, False, "", "1", "12", "[1]", b"", b"1", {}, {0: 1}, {1: [1]}, set(), {1}, frozenset(),
           frozenset([1]), range(0), range(3), Thing(), object(), Thing, int, len, iter([1]), ValueError("1")]

NOT_INTEGERS = STRANGE + [[], [1], (), (1,), [[1]], [True], (None,)]

NOT_LINES = STRANGE + [0, 1, -7, 10 ** 29, [0], (0,), [1, 0], (1, 0), [0] * 13, [True], [False], (True,), [1, True],
                       [True, 1], [False, 1], [1, False, 1], [None], [1, None], ["1"], [1, "2"], ["", 1], [b"1"],
                       [[1]], [(1,)], [1, [2]], [[], 1], [{}], [1, {1}], [Thing()], [1] * 14, (1,) * 14,
                       [0] * 13 + [1]]

NOT_PLANES = STRANGE + [0, 1, -7, 10 ** 29, [1], (1,), [0], [[]], [()], ((),), [[1], []], [[], []], [[1], ()], [[0]],
                        [[1, 0]], [[1, 0], [1]], [[1], [0]], [[True]], [[1], [True]], [[1, True]], [[False, 1]],
                        ([], (0, True)), [[1], 1], [1, [1]], [None], [[None]], [[1], None], ["1"], [["1"]], [[[1]]],
                        [[1], [[1]]], [{}], [{0: 1}], [{1}], [range(1, 3)], [b"1"], [Thing()], [[Thing()]],
                        [[1]] * 10, ([1],) * 10, [[1] * 10], [[1], [0] * 9 + [1]], [[1] * 10, [1]], [[1]] * 9 + [[]]]

NOT_CHANGES = STRANGE + [0, 1, -7, [], (), [1], [1, 0, 0, 0, 1], [1, 0, 0, 0, 1, 0, 0], [1, 2, 0, 2, 4, 0],
                         [0, 0, 0, 0, 0, 0], (3, 5, 1, 6, 10, 1), [0, 1, 5, 0, 1, 7], [True, 0, 0, 0, 1, 0],
                         [1, 0, 0, 0, True, 0], [1, False, 0, 0, 1, 0], [1, 0, 0, 0, 1, None], [1, 0, "0", 0, 1, 0],
                         [[1], 0, 0, 0, 1, 0], [1, 0, 0, 0, 1, Thing()], [[1, 0, 0], [0, 1, 0]], "100010",
                         b"\1\0\0\0\1\0", range(6), {0: 1, 1: 0, 2: 0, 3: 0, 4: 1, 5: 0}]

NOT_PRIMES = NOT_INTEGERS + [0, 1, -1, -2, -7, 4, 9, 91, 561, 9999, 10000, 10007, 10 ** 29, 2 ** 61 - 1, [2], (7,), "7"]

# Lines that are no roots: of a wrong degree, of another last number, products of lesser lines; and what is no line.
NOT_ROOTS = NOT_LINES + [[], (), [1], [-1], [7], [0, 2], [0, -1], [3, 2], [1, 0, 2], [-2, 0, -1], [-1, 0, 1],
                         [0, 0, 1], (0, 1, 1), [4, 4, 1], [-6, 1, 1], [-1, 0, 0, 1], [0, 0, 0, 1], [-2, 2, -1, 1],
                         [4, 0, 0, 0, 1], (1, 0, 1, 0, 1), [1, 0, 2, 0, 1], [6, 0, -5, 0, 1], [-2, 0, 0, 1, 1],
                         [-2, 0, 0, 0, 0, 1], [-1, -1, 0, 0, 0, 1], [2, 0, 0, 0, 2]]

NOT_CURVES = STRANGE + [0, 1, -7, [], (), [1], [[1]], [[0, 1], [1]], [[0, 1], [1], [1], [1]], [[], [], []], ((), (), ()),
                        [[1], [2], [3]], [[1], [], []], [[], [], [0, 1]], [[0, 1], [0, 2], []], ([0, 1], [0, 0, 1], [0, 3]),
                        [[-1, 0, 1], [1, 1], [-2, -1, 1]], [[0, 0, 0, 0, 0, 0, 1], [1], [1]], [[1], [1], [0] * 12 + [1]],
                        [[0, 1], [1], [True]], [[0, True], [1], [1]], [[0, 1], [1], [1, 0]], [[0], [0, 1], [1]],
                        [[0, 1], [1], None], [[0, 1], [1], 1], [None] * 3, [[0, 1], "1", [1]], [[0, 1], {}, [1]],
                        [[0, 1], [1], [[1]]], {0: [0, 1], 1: [1], 2: [1]}, ["01", "1", "1"], [[0, 1], [1], range(1, 2)],
                        [[0, 1], [1], {1}], [[0, 1], [1], [Thing()]], [[[0, 1], [1], [1]]]]

# Of a plane and a COUNT, but in no tuple, of another sequence, with too few letters, too many of them, or more.
NOT_FORMS = STRANGE + [0, 1, -7, [], (), ([[1]],), [[1]], [[[0, 1]], 1], [[[1]], 0], (1, [[1]]), ([[1]], 1, 1), ([], 1),
                       ((), 0), ([[0, 1]], 0), ([[], [0, 1]], 1), ([[0, 0, 1], [1]], 1), ([[1]], -1), ([[1]], 9),
                       ([[1], [0] * 8 + [1]], 8), ([[1]], True), ([[True]], 1), ([[1, 0]], 1), ([[1]], None),
                       (None, 1), ([[1]], "1"), ("xx", 2), ([[1]], [1]), ([1], 1), {0: [[1]], 1: 1}, ([[1]], (1,)),
                       (([[1]], 1),), ([[1]] * 10, 8), ([[0] * 9 + [1]], 8), ([[1]], 10 ** 29), ([[Thing()]], 2)]


def refused(test, error, function, /, *given, **named):
    """The error that the call raises: its class is just this one."""
    told = f"{getattr(function, '__name__', function)}{given}{named}"
    try:
        result = function(*given, **named)
    except Exception as raised:
        test.assertIs(raised.__class__, error, f"{told} raised {raised!r}")
        return raised
    test.fail(f"{told} returned {result!r}")


def refused_value(test, error, value, function, /, *given, **named):
    """The call raises this error, with this very value in it."""
    raised = refused(test, error, function, *given, **named)
    test.assertIs(raised.value, value)


def refused_limit(test, what, limit, function, /, *given, **named):
    """The call raises TooMany with these attributes."""
    from curvepieces.errors import TooMany
    raised = refused(test, TooMany, function, *given, **named)
    test.assertEqual((raised.what, raised.limit), (what, limit))


def check_parameters(test, function, wanted):
    """Each parameter refuses each wrong value, by place and by name, the first wrong one ahead of later ones.

    wanted has for each parameter its name, a value that is let, its wrong values (none where any is let), its error.
    """
    names = [name for name, _, _, _ in wanted]
    valid = [value for _, value, _, _ in wanted]
    for at, (_, _, wrongs, error) in enumerate(wanted):
        for wrong in wrongs:
            given = valid[:at] + [wrong] + valid[at + 1:]
            refused_value(test, error, wrong, function, *given)
            refused_value(test, error, wrong, function, **dict(zip(names, given)))
            for later in range(at + 1, len(wanted)):
                for also in wanted[later][2][:1] + wanted[later][2][-1:]:
                    both = given[:later] + [also] + given[later + 1:]
                    refused_value(test, error, wrong, function, *both)
                    refused_value(test, error, wrong, function, **dict(zip(names, both)))


def exactly(value):
    """The value with the kinds of all that is in it, so that True is not 1 and a tuple is no list."""
    if isinstance(value, (list, tuple)):
        return value.__class__.__name__, [exactly(part) for part in value]
    return value.__class__.__name__, value


def lists_in(value):
    """All lists in a value, itself included."""
    if not isinstance(value, (list, tuple)):
        return []
    inner = [found for part in value for found in lists_in(part)]
    return inner + [value] if isinstance(value, list) else inner


def as_tuples(value):
    """The value with a tuple for each list in it."""
    if isinstance(value, (list, tuple)):
        return tuple([as_tuples(part) for part in value])
    return value


def check_call(test, function, given):
    """The result of a call, when what is passed stays, returned lists are new, and a second call tells the same."""
    before = copy.deepcopy(given)
    result = function(*given)
    test.assertEqual(exactly(given), exactly(before), function.__name__)
    kept = copy.deepcopy(result)
    again = function(*given)
    test.assertEqual(exactly(again), exactly(kept), function.__name__)
    fresh = lists_in(result) + lists_in(again)
    passed = {id(found) for part in given for found in lists_in(part)}
    test.assertEqual(len({id(found) for found in fresh}), len(fresh), f"{function.__name__}{given}")
    test.assertFalse(passed & {id(found) for found in fresh}, f"{function.__name__}{given}")
    for found in lists_in(result):
        found.append("spoiled")
    test.assertEqual(exactly(function(*given)), exactly(kept), function.__name__)
    test.assertEqual(exactly(given), exactly(before), function.__name__)
    return kept


def check_judge(test, judge, values, *ahead):
    """The judge returns a bool for each value, and changes none."""
    for value in values:
        test.assertIs(judge(*ahead, value).__class__, bool, f"{judge.__name__} of {value!r}")


class Dice:
    """Numbers that look mixed and are the same in each run."""

    def __init__(self, seed):
        self.state = seed * 7919 + 12345

    def roll(self, low, high):
        self.state = (self.state * 6364136223846793005 + 1442695040888963407) % 2 ** 64
        return low + (self.state >> 33) % (high - low + 1)

    def line(self, degree, most):
        """A line of just this degree, its numbers at most so far from 0."""
        if degree < 0:
            return []
        last = self.roll(1, most) * (1 if self.roll(0, 1) else -1)
        return [self.roll(-most, most) for _ in range(degree)] + [last]

    def plane(self, m, n, most):
        """A plane of just these degrees."""
        rows = [self.line(self.roll(-1, n), most) for _ in range(m)] + [self.line(self.roll(0, n), most)]
        rows[self.roll(0, m)] = self.line(n, most)
        return rows
