"""Numbers, primes and rests by a prime."""

PRIMES = (5, 7, 11, 13, 17, 19, 23, 29, 31, 37, 41, 43, 47, 53, 59, 61, 67, 71, 73, 79, 83, 89, 97, 101)


def is_number(thing):
    """Whether the thing, whatever it is, is a number."""
    # Python counts True and False among the integers; here they are no numbers.
    return isinstance(thing, int) and not isinstance(thing, bool)


def is_prime(thing):
    """Whether the thing, whatever it is, is one of PRIMES."""
    return is_number(thing) and thing in PRIMES


def is_rest(p, thing):
    """Whether the thing, whatever it is, is a rest by p."""
    return is_number(thing) and 0 <= thing < p


def contrary(p, a):
    """The rest b for which a times b is 1; a is a rest by p, but not 0."""
    for b in range(1, p):
        if a * b % p == 1:
            return b
    return None
