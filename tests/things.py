"""What the tests hand in where the document says "whatever it is"."""


def nested(depth, wrap):
    thing = wrap(None)
    for _ in range(depth - 1):
        thing = wrap(thing)
    return thing


def odd_things():
    """Things of every kind that may be handed in, none of them a number; each call makes new ones."""
    return [
        None,
        True,
        False,
        "",
        "5",
        "ann",
        "a\nb",
        "~" * 200,
        (),
        (5,),
        ((),),
        (None, True, "x"),
        [],
        [5],
        [0, 1],
        {},
        {"5": 5},
        {"a": [1, (2, {"b": None})]},
        nested(20, lambda inner: [inner]),
        nested(20, lambda inner: (inner,)),
        nested(20, lambda inner: {"k": inner}),
        tuple(range(2000)),
        list(range(2000)),
        {str(k): k for k in range(1999)},
    ]


LONG_NUMBERS = (10 ** 29, 10 ** 30 - 1, -(10 ** 30 - 1), 5 * 10 ** 29, 101 ** 14)


def by_trial(number):
    """Whether a number is prime, by trying all that might divide it."""
    return number > 1 and all(number % d != 0 for d in range(2, number))


TEST_PRIMES = tuple(number for number in range(5, 102) if by_trial(number))
