"""Binary32 and binary64 as whole numbers: every operation is rounded once, to the nearest, ties to even.

A form says which of the two a number's bits are to be read as. It is the first argument wherever both are served.
"""

# What stands at each place of a form. DEPTH is d, where 2^-d is the least number above 0.
WIDTH = 0
INFINITY = 1
MINUS = 2
ONE = 3
DEPTH = 4

SINGLE = (23, 0x7F800000, 0x80000000, 0x3F800000, 149)
DOUBLE = (52, 0x7FF0000000000000, 0x8000000000000000, 0x3FF0000000000000, 1074)


def magnitude(form, x):
    """The bits of x without its sign."""
    return x & (form[MINUS] - 1)


def negated(form, x):
    """The bits of x with the other sign."""
    return x ^ form[MINUS]


def is_no_number(form, x):
    """Whether x is no number."""
    return magnitude(form, x) > form[INFINITY]


def is_infinite(form, x):
    """Whether x is infinite, of either sign."""
    return magnitude(form, x) == form[INFINITY]


def is_finite(form, x):
    """Whether x is neither infinite nor no number."""
    return x & form[INFINITY] != form[INFINITY]


def no_number(form):
    """The bits of one that is no number."""
    return form[INFINITY] + 1


def told(form, x):
    """x as it stands in an answer: -1 for whatever is no number."""
    return -1 if is_no_number(form, x) else x


def digits(form, x):
    """The whole number m of x = m * 2^exponent(form, x), for a finite x."""
    hidden = 1 << form[WIDTH]
    m = x & (hidden - 1)
    if magnitude(form, x) >= hidden:
        m += hidden
    return -m if x & form[MINUS] else m


def exponent(form, x):
    """The power of 2 that goes with digits(form, x)."""
    field = magnitude(form, x) >> form[WIDTH]
    # Below the normal numbers the field is 0, but the power is that of field 1.
    return max(field, 1) - 1 - form[DEPTH]


def shifted(m, k):
    """m * 2^k for m not less than 0, as the nearest whole number, ties to even."""
    if k >= 0:
        return m << k
    # Less than a half is 0, however far below: what follows would have to write out as many digits.
    if m.bit_length() < -k:
        return 0
    kept = m >> -k
    rest = m - (kept << -k)
    half = 1 << (-k - 1)
    if rest > half or (rest == half and kept % 2 == 1):
        kept += 1
    return kept


def rounded(form, m, e, zero):
    """The bits of the number nearest to m * 2^e, ties to even; where m is 0, the bits are zero."""
    if m == 0:
        return zero
    size = abs(m)
    last = max(e + size.bit_length() - form[WIDTH] - 1, -form[DEPTH])
    kept = shifted(size, e - last)
    # The leading digit of what is kept is added into the field of the exponent: so a number below the normal
    # ones needs no case of its own, nor does a carry out of the rounding.
    bits = min(((last + form[DEPTH]) << form[WIDTH]) + kept, form[INFINITY])
    return bits | form[MINUS] if m < 0 else bits


def finite_fma(form, x, y, z):
    """x y + z rounded once, where all three are finite."""
    product = digits(form, x) * digits(form, y)
    e = exponent(form, x) + exponent(form, y)
    low = exponent(form, z)
    last = min(e, low)
    total = (product << (e - last)) + (digits(form, z) << (low - last))
    # A sum that is just 0 has a minus only where both of its parts have one.
    return rounded(form, total, last, (x ^ y) & z & form[MINUS])


def infinite_fma(form, x, y, z):
    """x y + z, where x or y is infinite and none is no number."""
    product = form[INFINITY] | ((x ^ y) & form[MINUS])
    zero_times = magnitude(form, x) == 0 or magnitude(form, y) == 0
    if zero_times or z == negated(form, product):
        return no_number(form)
    return product


def fma(form, x, y, z):
    """x y + z, rounded once."""
    if is_finite(form, x) and is_finite(form, y) and is_finite(form, z):
        return finite_fma(form, x, y, z)
    if is_no_number(form, x) or is_no_number(form, y) or is_no_number(form, z):
        return no_number(form)
    if is_infinite(form, x) or is_infinite(form, y):
        return infinite_fma(form, x, y, z)
    return z


def fms(form, x, y, z):
    """x y - z, rounded once."""
    return fma(form, x, y, negated(form, z))


def fnma(form, x, y, z):
    """z - x y, rounded once."""
    return fma(form, negated(form, x), y, z)


def multiply(form, x, y):
    """x y."""
    # Of the two zeros -0 is the one that changes no product, a zero's sign included.
    return fma(form, x, y, form[MINUS])


def add(form, x, y):
    """x + y."""
    return fma(form, x, form[ONE], y)


def subtract(form, x, y):
    """x - y."""
    return fms(form, x, form[ONE], y)


def finite_quotient(form, x, y):
    """x / y rounded once, where both are finite and y isn't 0."""
    divisor = abs(digits(form, y))
    # More digits than a number has are worked out, and one more behind them tells whether something is left over:
    # that is all the rounding has to know of the rest.
    more = divisor.bit_length() + form[WIDTH] + 2
    size = abs(digits(form, x)) << more
    quotient = size // divisor * 2
    if size % divisor > 0:
        quotient += 1
    sign = (x ^ y) & form[MINUS]
    return rounded(form, quotient, exponent(form, x) - exponent(form, y) - more - 1, 0) | sign


def horner(form, factors, x):
    """The polynomial of x with these factors, that of the highest power first, fma by fma."""
    total = factors[0]
    for factor in factors[1:]:
        total = fma(form, total, x, factor)
    return total


def order(form, x):
    """A whole number that stands among others as x does among numbers; both zeros have the same one."""
    return -magnitude(form, x) if x & form[MINUS] else x


def are_numbers(form, x, y):
    """Whether neither is no number: else x is neither less than y, nor not less."""
    return not is_no_number(form, x) and not is_no_number(form, y)


def less(form, x, y):
    """Whether x is less than y."""
    return are_numbers(form, x, y) and order(form, x) < order(form, y)


def not_less(form, x, y):
    """Whether x is not less than y."""
    return are_numbers(form, x, y) and order(form, x) >= order(form, y)


def whole_below(form, x):
    """The whole number below a finite x."""
    m = digits(form, x)
    e = exponent(form, x)
    return m << e if e >= 0 else m >> -e


def nearest_whole(form, x):
    """The whole number nearest to a finite x, ties to even."""
    size = shifted(abs(digits(form, x)), exponent(form, x))
    return -size if x & form[MINUS] else size


def whole_above(form, x):
    """The whole number above a finite x."""
    return -whole_below(form, negated(form, x))


def whole_towards_zero(form, x):
    """The whole number beside a finite x on the side of 0."""
    return whole_above(form, x) if x & form[MINUS] else whole_below(form, x)


def floor(x):
    """The whole number below a finite double, as a double; a zero keeps its sign."""
    return rounded(DOUBLE, whole_below(DOUBLE, x), 0, x & DOUBLE[MINUS])


def of_whole(form, m):
    """The bits of a whole number."""
    return rounded(form, m, 0, 0)


def single_of_double(x):
    """A finite double as a single."""
    zero = SINGLE[MINUS] if x & DOUBLE[MINUS] else 0
    return rounded(SINGLE, digits(DOUBLE, x), exponent(DOUBLE, x), zero)


def double_of_single(x):
    """A single as a double."""
    if is_no_number(SINGLE, x):
        return no_number(DOUBLE)
    sign = DOUBLE[MINUS] if x & SINGLE[MINUS] else 0
    if is_infinite(SINGLE, x):
        return DOUBLE[INFINITY] | sign
    return rounded(DOUBLE, digits(SINGLE, x), exponent(SINGLE, x), sign)
