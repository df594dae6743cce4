"""What the tests hand in where the document says "whatever it is", and what they reckon by themselves."""

import functools
import itertools
import random
import re
import unittest

from opencalls.books import Book


def nested(depth, wrap):
    thing = wrap(None)
    for _ in range(depth - 1):
        thing = wrap(thing)
    return thing


def odd_things():
    """Things of every kind that may be handed in, none of them a number; each call makes new ones."""
    return [
        None,
        True,
        False,
        "",
        "5",
        "ann",
        "a\nb",
        "~" * 200,
        (),
        (5,),
        ((),),
        (None, True, "x"),
        [],
        [5],
        [0, 1],
        {},
        {"5": 5},
        {"a": [1, (2, {"b": None})]},
        nested(20, lambda inner: [inner]),
        nested(20, lambda inner: (inner,)),
        nested(20, lambda inner: {"k": inner}),
        tuple(range(2000)),
        list(range(2000)),
        {str(k): k for k in range(1999)},
    ]


LONG_NUMBERS = (10 ** 29, 10 ** 30 - 1, -(10 ** 30 - 1), 5 * 10 ** 29, 101 ** 14)


def by_trial(number):
    """Whether a number is prime, by trying all that might divide it."""
    return number > 1 and all(number % d != 0 for d in range(2, number))


TEST_PRIMES = tuple(number for number in range(5, 102) if by_trial(number))


class Asking(unittest.TestCase):
    """Tests that ask everything twice: point 3's "nothing handed in is changed" and "the same answer"."""

    def ask(self, function, *things, **named):
        before = repr((things, named))
        told = function(*things, **named)
        again = function(*things, **named)
        self.assertEqual(repr(told), repr(again))
        self.assertEqual(repr((things, named)), before)
        return told

    def assert_judged(self, answer, function, *things):
        """The answer is True or False itself."""
        self.assertIs(self.ask(function, *things), answer, repr(things)[:300])


def is_rests(p, length, thing):
    """Whether a thing is a tuple of so many rests, asked by kind, so that truths are none."""
    return type(thing) is tuple and len(thing) == length and all(type(a) is int and 0 <= a < p for a in thing)


def is_plain(p, n, thing):
    """Whether a thing is a plain form, by the words of point 6."""
    if type(thing) is not tuple or not all(is_rests(p, n, row) and any(row) for row in thing):
        return False
    firsts = [min(at for at in range(n) if row[at] != 0) for row in thing]
    if sorted(set(firsts)) != firsts:
        return False
    return all(row[at] == (1 if k == j else 0) for k, row in enumerate(thing) for j, at in enumerate(firsts))


def all_rows(p, n):
    return list(itertools.product(range(p), repeat=n))


def combined(p, n, rows, factors):
    """So many times each of the rows, summed place by place."""
    return tuple(sum(a * row[at] for a, row in zip(factors, rows)) % p for at in range(n))


def worth_at(p, row, world):
    return sum(a * b for a, b in zip(row, world, strict=True)) % p


def span_of(p, n, rows):
    """All rows that the given ones make, one by one."""
    made = {(0,) * n}
    for row in rows:
        if row not in made:
            made = {combined(p, n, (one, row), (1, a)) for one in made for a in range(p)}
    return made


def steps_of(p, rows):
    """Some rows in steps, first places apart, by the test's own reckoning; as many as the rows' room is large."""
    left = [list(row) for row in rows]
    steps = []
    while left:
        row = left.pop()
        if not any(row):
            continue
        at = min(k for k in range(len(row)) if row[k])
        back = pow(row[at], -1, p)
        steps.append(tuple(row))
        left = [[(b - other[at] * back * a) % p for a, b in zip(row, other)] for other in left]
    return steps


def rank_of(p, rows):
    """The size of the room that the rows make."""
    return len(steps_of(p, rows))


def has_row(p, rows, row):
    """Whether the rows make the row."""
    return rank_of(p, list(rows) + [row]) == rank_of(p, rows)


def drawn_row(rng, p, n):
    return tuple(rng.randrange(p) for _ in range(n))


def drawn_rows(rng, p, n, many):
    """Rows drawn at random, with noughts, rows twice, multiples and made rows among them."""
    rows = []
    for _ in range(many):
        way = rng.randrange(8)
        if way == 0:
            rows.append((0,) * n)
        elif way == 1 and rows:
            rows.append(rng.choice(rows))
        elif way == 2 and rows:
            rows.append(combined(p, n, rows, drawn_row(rng, p, len(rows))))
        elif way == 3:
            rows.append(tuple(rng.choice((0, 0, 0, 1, p - 1)) for _ in range(n)))
        else:
            rows.append(drawn_row(rng, p, n))
    return tuple(rows)


def bent(thing):
    """The thing with one part changed, at each place; some of what comes may be as good as the thing itself."""
    if isinstance(thing, tuple):
        yield list(thing)
        yield (thing,)
        yield thing + (0,)
        yield thing[::-1]
        for at, part in enumerate(thing):
            yield thing[:at] + thing[at + 1:]
            yield thing[:at + 1] + thing[at:]
            for other in bent(part):
                yield thing[:at] + (other,) + thing[at + 1:]
    elif isinstance(thing, str):
        yield from ("", thing + "a", thing.upper(), thing[::-1], thing[:-1], [thing], (thing,), None, 0, thing * 9)
    else:
        yield from (thing + 1, thing - 1, 0, 1, -1, 101, 10 ** 29, bool(thing), str(thing), [thing], (thing,), None)


def plain_of(p, n, rows):
    """The plain form of what the rows make, reckoned place by place."""
    left, done = [list(row) for row in rows], []
    for at in range(n):
        with_rest = [row for row in left if row[at]]
        if with_rest:
            left.remove(with_rest[0])
            first = [rest * pow(with_rest[0][at], -1, p) % p for rest in with_rest[0]]
            left, done = [
                [[(b - row[at] * a) % p for a, b in zip(first, row)] for row in part] for part in (left, done)
            ]
            done.append(first)
    return tuple(map(tuple, done))


def led_by_hand(p, place, row, one):
    """Point 11's exchange: the old number there is the new one less the rest of the row, by the row's rest there."""
    back = pow(row[place], -1, p)
    return tuple(
        one[place] * back % p if at == place else (one[at] - one[place] * back * row[at]) % p for at in range(len(one))
    )


def is_small_name(thing):
    return type(thing) is str and re.fullmatch("[a-z]{1,8}", thing) is not None


def group_refused(there, hands, least):
    """How a group is refused by those who are there, or None."""
    names = type(hands) is tuple and all(map(is_small_name, hands))
    if not names or sorted(set(hands)) != list(hands) or len(hands) < least:
        return ("NoGroup",)
    for hand in hands:
        if hand not in there:
            return ("NoHand", hand)
    return None


class Model:
    """The test's own book: what was heard at each moment, by lists and dicts."""

    def __init__(self, p, n, hands):
        self.p = p
        self.moments = [(n, (), dict(hands))]
        self.deeds = []

    def refusal(self, deed):
        """The refusal of a deed as its class's name and its fields, or None."""
        n, called, hands = self.moments[-1]
        if len(self.deeds) >= 60:
            return ("Long",)
        word, *things = deed
        if word in ("call", "go"):
            if not (type(things[0]) is str and things[0] in hands):
                return ("NoHand", things[0])
        if word in ("whisper", "meet"):
            told = group_refused(hands, things[0], 1 if word == "whisper" else 2)
            if told is not None:
                return told
        if word == "change" and not (type(things[0]) is int and 0 <= things[0] < n):
            return ("NoPlace", things[0])
        if word in ("call", "whisper", "change") and not is_rests(self.p, n, things[1]):
            return ("NoRow",)
        return self.last_refusal(word, things)

    def last_refusal(self, word, things):
        n, called, hands = self.moments[-1]
        if word == "call" and not has_row(self.p, hands[things[0]], things[1]):
            return ("NotKnown", things[0])
        if word == "change" and things[1][things[0]] == 0:
            return ("NoTurn",)
        if word == "come":
            return self.come_refused(*things)
        if word == "hide" and n == 8:
            return ("Full",)
        if word == "go" and len(hands) == 2:
            return ("Few",)
        return None

    def come_refused(self, hand, rows):
        n, called, hands = self.moments[-1]
        if not is_small_name(hand):
            return ("NoName", hand)
        if hand in hands:
            return ("Taken", hand)
        if type(rows) is not tuple or len(rows) > 8 or not all(is_rests(self.p, n, row) for row in rows):
            return ("NoRow",)
        return ("Full",) if len(hands) == 6 else None

    def do(self, deed):
        n, called, hands = self.moments[-1]
        word, *things = deed
        if word == "call":
            called, hands = called + (things[1],), {name: rows + (things[1],) for name, rows in hands.items()}
        elif word == "whisper":
            hands = {name: rows + (things[1],) * (name in things[0]) for name, rows in hands.items()}
        elif word == "meet":
            hands = self.met(things[0])
        elif word == "hide":
            n, called = n + 1, tuple(row + (0,) for row in called)
            hands = {name: tuple(row + (0,) for row in rows) for name, rows in hands.items()}
        elif word == "change":
            called = tuple(led_by_hand(self.p, *things, row) for row in called)
            hands = {name: tuple(led_by_hand(self.p, *things, row) for row in rows) for name, rows in hands.items()}
        elif word == "come":
            hands = {**hands, things[0]: things[1] + plain_of(self.p, n, called)}
        else:
            hands = {name: rows for name, rows in hands.items() if name != things[0]}
        self.moments.append((n, called, hands))
        self.deeds.append(deed)

    def met(self, names):
        n, called, hands = self.moments[-1]
        together = plain_of(self.p, n, sum([hands[name] for name in names], ()))
        told = dict(hands)
        for name in names:
            for row in together:
                if not has_row(self.p, told[name], row):
                    told[name] += (row,)
        return told

    def back(self):
        self.moments.pop()
        self.deeds.pop()

    def drawn_deed(self, rng):
        """A deed that will most often be let by."""
        n, called, hands = self.moments[-1]
        word = rng.choice(("call", "call", "call", "whisper", "whisper", "meet", "hide", "change", "come", "go"))
        names = tuple(sorted(rng.sample(sorted(hands), rng.randrange(1, len(hands) + 1))))
        row = drawn_row(rng, self.p, n)
        if word == "call":
            heard = hands[names[0]]
            known = combined(self.p, n, heard, drawn_row(rng, self.p, len(heard)))
            return (word, names[0], rng.choice((known, known, known, row)))
        if word == "whisper":
            return (word, names, row)
        if word == "change":
            return (word, rng.randrange(n), row)
        if word == "come":
            name = rng.choice(("abe", "cid", "dot", "eve", "z", "abcdefgh"))
            return (word, name, drawn_rows(rng, self.p, n, rng.randrange(4)))
        return {"meet": (word, names), "hide": (word,), "go": (word, names[0])}[word]


def drawn_model(rng, p, n, many):
    """A model of so many hands with some rows each."""
    names = sorted(rng.sample(("ann", "bob", "cy", "dan", "eli", "fay", "guy", "abcdefgh"), many))
    return Model(p, n, tuple((name, drawn_rows(rng, p, n, rng.randrange(4))) for name in names))


def first_hands(model):
    return tuple(model.moments[0][2].items())


def done_by(book, deed):
    """A deed handed to the book's own method."""
    return getattr(book, deed[0])(*deed[1:])


def drawn_books(seed, many, steps, primes=(5, 7, 31, 101)):
    """Books with the models that they were led along with, deed by deed."""
    rng = random.Random(seed)
    for _ in range(many):
        model = drawn_model(rng, rng.choice(primes), rng.randrange(1, 7), rng.randrange(2, 7))
        book = Book(model.p, model.moments[0][0], first_hands(model))
        for _ in range(steps):
            deed = model.drawn_deed(rng)
            if model.refusal(deed) is None:
                done_by(book, deed)
                model.do(deed)
        yield rng, book, model


def refused_by(call):
    """The refusal that a call ends in, as its class's name and its fields; None where it tells None."""
    try:
        told = call()
    except (ValueError, LookupError) as error:
        return (type(error).__name__, *vars(error).values())
    if told is not None:
        raise AssertionError(f"a deed told {told!r}")
    return None


def seen_of(book):
    """All that a book tells of itself now, but for its log."""
    names = book.names()
    heard = [book.heard((name,)) for name in names]
    known = [book.known((name,)) for name in names]
    return (names, heard, known, book.heard(()), book.known(()), len(book), book.its_deeds(), str(book))


def only_tuples(thing):
    """Whether nothing within a thing that was told can be changed."""
    return all(map(only_tuples, thing)) if type(thing) is tuple else type(thing) in (int, str, bool)


def drawn_stand(rng, p, n, many):
    known = drawn_rows(rng, p, n, rng.randrange(n))
    names = sorted(rng.sample(("ann", "bob", "cy", "dan", "eli", "fay", "z", "abcdefgh"), many))
    hands = [(name, plain_of(p, n, known + drawn_rows(rng, p, n, rng.randrange(n + 1)))) for name in names]
    return (p, n, plain_of(p, n, known), tuple(hands))


def quiet_stand(rng, p, n, many):
    """A drawn stand in which nothing has been called."""
    names = sorted(rng.sample(("ann", "bob", "cy", "dan", "eli", "fay", "z", "abcdefgh"), many))
    return (p, n, (), tuple((name, plain_of(p, n, drawn_rows(rng, p, n, rng.randrange(1, 4)))) for name in names))


def pooled_stand(rng, p, n, many):
    """A drawn stand in which each hand knows most rows of one pool, so that many know the same."""
    names = sorted(rng.sample(("ann", "bob", "cy", "dan", "eli", "fay", "z", "abcdefgh"), many))
    pool = drawn_rows(rng, p, n, n + 1)
    known = plain_of(p, n, tuple(row for row in pool if rng.random() < 0.15))
    rooms = [plain_of(p, n, known + tuple(row for row in pool if rng.random() < 0.7)) for _ in names]
    return (p, n, known, tuple(zip(names, rooms)))


def drawn_stands(seed, each, primes=(5, 7, 31, 101)):
    rng = random.Random(seed)
    for p in primes:
        for n in range(1, 9):
            for _ in range(each):
                yield rng, drawn_stand(rng, p, n, rng.randrange(2, 7))


def names_of(stand):
    return tuple(name for name, room in stand[3])


def groups_in(stand):
    """All groups of hands of the stand."""
    names = names_of(stand)
    return [group for many in range(2, len(names) + 1) for group in itertools.combinations(names, many)]


def drawn_group(rng, stand):
    """A group of hands of the stand, most often all of them."""
    return rng.choice((names_of(stand), rng.choice(groups_in(stand))))


def parts_in(group):
    """All parts but the whole group, in the order of the tuples of names."""
    return sorted(part for many in range(1, len(group)) for part in itertools.combinations(group, many))


@functools.cache
def splits_of(many):
    """All ways to put the numbers up to many into parts, as sets of sets."""
    if many == 0:
        return frozenset({frozenset()})
    found = set()
    for split in splits_of(many - 1):
        found.add(split | {frozenset({many - 1})})
        found |= {(split - {part}) | {part | {many - 1}} for part in split}
    return frozenset(found)


@functools.cache
def partings_in(group):
    """All partings of the group, rising, by the test's own reckoning."""
    named = [[tuple(sorted(group[k] for k in part)) for part in split] for split in splits_of(len(group))]
    return tuple(sorted(tuple(sorted(parts)) for parts in named if len(parts) > 1))


def size_in(stand, names):
    """How much these hands together know beyond the calls."""
    p, n, known, hands = stand
    rows = known + sum([room for name, room in hands if name in names], ())
    return rank_of(p, rows) - rank_of(p, known)


def sizes_in(stand, group):
    """The sizes of all parts of the group and of none."""
    return {part: size_in(stand, part) for part in [(), group, *parts_in(group)]}


def bounds_in(stand, group):
    """All partings, rising, with their bounds."""
    sizes = sizes_in(stand, group)
    k = sizes[group]
    return {
        parting: k - (sum(sizes[part] for part in parting) - k) // (len(parting) - 1) for parting in partings_in(group)
    }


def wants_in(stand, group):
    """What is wanted of each part but the whole group, in the order of the tuples of names."""
    sizes = sizes_in(stand, group)
    return {part: sizes[group] - sizes[tuple(name for name in group if name not in part)] for part in parts_in(group)}


def first_short(group, wants, numbers):
    """The first part whose numbers come to less than is wanted of it, or None."""
    own = dict(zip(group, numbers, strict=True))
    for part, wanted in wants.items():
        if sum(own[name] for name in part) < wanted:
            return part
    return None


def called_in(stand, row):
    """The stand behind a call of the row, whoever calls it."""
    p, n, known, hands = stand
    rooms = tuple((name, plain_of(p, n, room + (row,))) for name, room in hands)
    return (p, n, plain_of(p, n, known + (row,)), rooms)


def drawn_known(rng, stand, name):
    """A row that the hand knows, now and then one that tells nothing."""
    p, n, known, hands = stand
    rows = rng.choice((dict(hands)[name],) * 5 + (known, ()))
    return combined(p, n, rows, drawn_row(rng, p, len(rows)))


def are_at_one(stand, group):
    rooms = dict(stand[3])
    return len({rooms[name] for name in group}) == 1


def is_plan_in(stand, group, thing):
    """Whether a thing is a plan, by the words of point 18, call by call."""
    if type(thing) is not tuple:
        return False
    for call in thing:
        if type(call) is not tuple or len(call) != 2 or type(call[0]) is not str or call[0] not in group:
            return False
        if not is_rests(stand[0], stand[1], call[1]) or not has_row(stand[0], dict(stand[3])[call[0]], call[1]):
            return False
        stand = called_in(stand, call[1])
    return are_at_one(stand, group)


def common_in(stand, group):
    """All rows that each of the group knows, one by one; for few numbers only."""
    p, n, known, hands = stand
    return set.intersection(*[span_of(p, n, room) for name, room in hands if name in group])


def one_call_more(stand, group):
    """All rooms that the listener can know behind one call more of the group, one by one; for few numbers only."""
    p, n, known, hands = stand
    rows = {row for name, room in hands if name in group for row in span_of(p, n, room)}
    # A row and its multiples tell the same, so one of them is enough.
    return {plain_of(p, n, known + (row,)) for row in rows if any(row) and next(filter(None, row)) == 1}


def all_calls(stand, group):
    """By how many calls the group can be at one, and how many secrets it can have, by all calls gone through."""
    seen, here, many, least, best = {stand[2]}, [stand], 0, None, 0
    while here:
        if least is None and any(are_at_one(one, group) for one in here):
            least = many
        best = max([best, *[secrets_in(one, group) for one in here]])
        told = set().union(*[one_call_more(one, group) for one in here]) - seen
        seen |= told
        here, many = [opened(stand, known) for known in sorted(told)], many + 1
    return least, best


def opened(stand, known):
    """The stand where the listener, and so each hand, knows all this too."""
    p, n, known_ahead, hands = stand
    return (p, n, known, tuple((name, plain_of(p, n, room + known)) for name, room in hands))


def secrets_in(stand, group):
    """How many secrets at once the group has: the rows that all know, by how many of them the listener knows."""
    p, n, known, hands = stand
    many, size = len(common_in(stand, group)) // p ** len(known), 0
    while many > 1:
        many, size = many // p, size + 1
    return size


def grouped_stands(seed, each, primes=(5, 7, 31, 101)):
    """Drawn stands of two to six hands, each with a group; with calls, with none at all, with much in common."""
    for rng, stand in drawn_stands(seed, each, primes):
        yield rng, stand, drawn_group(rng, stand)
        for draw in (quiet_stand, pooled_stand):
            other = draw(rng, stand[0], stand[1], len(stand[3]))
            yield rng, other, drawn_group(rng, other)


def is_right_stand(thing):
    """Whether a thing is a stand, by the words of point 14."""
    if type(thing) is not tuple or len(thing) != 4:
        return False
    p, n, known, hands = thing
    if type(p) is not int or p not in TEST_PRIMES or type(n) is not int or n not in range(1, 9):
        return False
    if not is_plain(p, n, known) or type(hands) is not tuple or len(hands) not in range(2, 7):
        return False
    if not all(type(pair) is tuple and len(pair) == 2 and is_small_name(pair[0]) for pair in hands):
        return False
    names = [name for name, room in hands]
    rooms = [room for name, room in hands]
    if sorted(set(names)) != names or not all(is_plain(p, n, room) for room in rooms):
        return False
    return all(has_row(p, room, row) for room in rooms for row in known)
