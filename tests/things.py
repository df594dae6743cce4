"""What the tests hand in where the document says "whatever it is", and what they reckon by themselves."""

import itertools
import unittest


def nested(depth, wrap):
    thing = wrap(None)
    for _ in range(depth - 1):
        thing = wrap(thing)
    return thing


def odd_things():
    """Things of every kind that may be handed in, none of them a number; each call makes new ones."""
    return [
        None,
        True,
        False,
        "",
        "5",
        "ann",
        "a\nb",
        "~" * 200,
        (),
        (5,),
        ((),),
        (None, True, "x"),
        [],
        [5],
        [0, 1],
        {},
        {"5": 5},
        {"a": [1, (2, {"b": None})]},
        nested(20, lambda inner: [inner]),
        nested(20, lambda inner: (inner,)),
        nested(20, lambda inner: {"k": inner}),
        tuple(range(2000)),
        list(range(2000)),
        {str(k): k for k in range(1999)},
    ]


LONG_NUMBERS = (10 ** 29, 10 ** 30 - 1, -(10 ** 30 - 1), 5 * 10 ** 29, 101 ** 14)


def by_trial(number):
    """Whether a number is prime, by trying all that might divide it."""
    return number > 1 and all(number % d != 0 for d in range(2, number))


TEST_PRIMES = tuple(number for number in range(5, 102) if by_trial(number))


class Asking(unittest.TestCase):
    """Tests that ask everything twice: point 3's "nothing handed in is changed" and "the same answer"."""

    def ask(self, function, *things, **named):
        before = repr((things, named))
        told = function(*things, **named)
        again = function(*things, **named)
        self.assertEqual(repr(told), repr(again))
        self.assertEqual(repr((things, named)), before)
        return told

    def assert_judged(self, answer, function, *things):
        """The answer is True or False itself."""
        self.assertIs(self.ask(function, *things), answer, repr(things)[:300])


def is_rests(p, length, thing):
    """Whether a thing is a tuple of so many rests, asked by kind, so that truths are none."""
    return type(thing) is tuple and len(thing) == length and all(type(a) is int and 0 <= a < p for a in thing)


def is_plain(p, n, thing):
    """Whether a thing is a plain form, by the words of point 6."""
    if type(thing) is not tuple or not all(is_rests(p, n, row) and any(row) for row in thing):
        return False
    firsts = [min(at for at in range(n) if row[at] != 0) for row in thing]
    if sorted(set(firsts)) != firsts:
        return False
    return all(row[at] == (1 if k == j else 0) for k, row in enumerate(thing) for j, at in enumerate(firsts))


def all_rows(p, n):
    return list(itertools.product(range(p), repeat=n))


def combined(p, n, rows, factors):
    """So many times each of the rows, summed place by place."""
    return tuple(sum(a * row[at] for a, row in zip(factors, rows)) % p for at in range(n))


def worth_at(p, row, world):
    return sum(a * b for a, b in zip(row, world, strict=True)) % p


def span_of(p, n, rows):
    """All rows that the given ones make, one by one."""
    made = {(0,) * n}
    for row in rows:
        if row not in made:
            made = {combined(p, n, (one, row), (1, a)) for one in made for a in range(p)}
    return made


def steps_of(p, rows):
    """Some rows in steps, first places apart, by the test's own reckoning; as many as the rows' room is large."""
    left = [list(row) for row in rows]
    steps = []
    while left:
        row = left.pop()
        if not any(row):
            continue
        at = min(k for k in range(len(row)) if row[k])
        back = pow(row[at], -1, p)
        steps.append(tuple(row))
        left = [[(b - other[at] * back * a) % p for a, b in zip(row, other)] for other in left]
    return steps


def rank_of(p, rows):
    """The size of the room that the rows make."""
    return len(steps_of(p, rows))


def has_row(p, rows, row):
    """Whether the rows make the row."""
    return rank_of(p, list(rows) + [row]) == rank_of(p, rows)


def drawn_row(rng, p, n):
    return tuple(rng.randrange(p) for _ in range(n))


def drawn_rows(rng, p, n, many):
    """Rows drawn at random, with noughts, rows twice, multiples and made rows among them."""
    rows = []
    for _ in range(many):
        way = rng.randrange(8)
        if way == 0:
            rows.append((0,) * n)
        elif way == 1 and rows:
            rows.append(rng.choice(rows))
        elif way == 2 and rows:
            rows.append(combined(p, n, rows, drawn_row(rng, p, len(rows))))
        elif way == 3:
            rows.append(tuple(rng.choice((0, 0, 0, 1, p - 1)) for _ in range(n)))
        else:
            rows.append(drawn_row(rng, p, n))
    return tuple(rows)


def bent(thing):
    """The thing with one part changed, at each place; some of what comes may be as good as the thing itself."""
    if isinstance(thing, tuple):
        yield list(thing)
        yield (thing,)
        yield thing + (0,)
        yield thing[::-1]
        for at, part in enumerate(thing):
            yield thing[:at] + thing[at + 1:]
            yield thing[:at + 1] + thing[at:]
            for other in bent(part):
                yield thing[:at] + (other,) + thing[at + 1:]
    elif isinstance(thing, str):
        yield from ("", thing + "a", thing.upper(), thing[::-1], thing[:-1], [thing], (thing,), None, 0, thing * 9)
    else:
        yield from (thing + 1, thing - 1, 0, 1, -1, 101, 10 ** 29, bool(thing), str(thing), [thing], (thing,), None)
