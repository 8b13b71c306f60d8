"""Doubles and singles: their bits, and operations that are each rounded once.

A number is a pair (m, e), worth m times 2 to the e. A zero is worth the same
whatever its e is, so there e is the sign: (0, 0) is +0 and (0, 1) is -0.
"""

PLUS_ZERO = (0, 0)
MINUS_ZERO = (0, 1)
HALF = (1, -1)
ONE = (1, 0)


class Failed(Exception):
    """An operation has no finite number as its result."""


def has_minus(x):
    return x[0] < 0 or (x[0] == 0 and x[1] == 1)


def opposite(x):
    if x[0] == 0:
        return (0, 1 - x[1])
    return (-x[0], x[1])


def without_sign(x):
    return opposite(x) if has_minus(x) else x


def is_below(x, y):
    gap = x[1] - y[1]
    if gap > 0:
        return x[0] << gap < y[0]
    return x[0] < y[0] << -gap


def joined_zero(x, y):
    """The zero whose sign is that of a product or quotient of x and y."""
    return MINUS_ZERO if has_minus(x) != has_minus(y) else PLUS_ZERO


def exact_product(x, y):
    m = x[0] * y[0]
    if m == 0:
        return joined_zero(x, y)
    return (m, x[1] + y[1])


def whole_root(n):
    """The greatest whole number whose square is not above n, for n above 0."""
    guess = 1 << ((n.bit_length() + 1) // 2)
    better = (guess + n // guess) // 2
    while better < guess:
        guess = better
        better = (guess + n // guess) // 2
    return guess


class Kind:
    """One kind of numbers: `digits` binary digits, e from `least` to `greatest`, `lanes` sums side by side.

    What the operations give back is always in one form: m has all its digits,
    or e is the least. So equal numbers are equal pairs.
    """

    def __init__(self, digits, least, greatest, sign_bit, lanes):
        self.digits = digits
        self.least = least
        self.greatest = greatest
        self.sign_bit = sign_bit
        self.lanes = lanes

    def from_bits(self, bits):
        """The number with these bits, None if it is not finite."""
        sign = bits >> self.sign_bit
        size = bits - (sign << self.sign_bit)
        hidden = 1 << (self.digits - 1)
        field = size // hidden
        if field > self.greatest - self.least + 1:
            return None
        if size == 0:
            return (0, sign)
        m = size if field == 0 else size % hidden + hidden
        e = self.least if field == 0 else self.least + field - 1
        return (-m if sign == 1 else m, e)

    def to_bits(self, x):
        if x[0] == 0:
            return x[1] << self.sign_bit
        # The hidden digit of m, if it is there, adds the missing 1 to the field above it.
        size = ((x[1] - self.least) << (self.digits - 1)) + abs(x[0])
        return size + (1 << self.sign_bit) if x[0] < 0 else size

    def nearest_bits(self, x):
        """The bits of the number nearest to x, which may be of another kind; infinity's if x is too great."""
        if x[0] == 0:
            return self.to_bits(x)
        try:
            nearest = self.rounded(x[0], x[1])
        except Failed:
            infinity = (self.greatest - self.least + 2) << (self.digits - 1)
            return infinity + (1 << self.sign_bit) if has_minus(x) else infinity
        return self.to_bits(nearest)

    def rounded(self, m, e):
        """The number nearest to m times 2 to the e, of two the even one; m is not 0."""
        shift = m.bit_length() - self.digits
        if e + shift < self.least:
            shift = self.least - e
        if shift > 0:
            # Half a unit less one, and one more if the unit would be odd: so a tie goes to the even one.
            kept = (m + (1 << (shift - 1)) - 1 + (m >> shift & 1)) >> shift
            if kept == 0:
                return MINUS_ZERO if m < 0 else PLUS_ZERO
            if kept.bit_length() > self.digits:
                kept >>= 1
                shift += 1
        else:
            kept = m << -shift
        if e + shift > self.greatest:
            raise Failed("too great")
        return (kept, e + shift)

    def plus(self, x, y):
        """x + y, rounded once, also where x or y has more digits than a number of this kind."""
        gap = x[1] - y[1]
        if gap > 0:
            m = (x[0] << gap) + y[0]
            e = y[1]
        else:
            m = x[0] + (y[0] << -gap)
            e = x[1]
        if m == 0:
            return MINUS_ZERO if has_minus(x) and has_minus(y) else PLUS_ZERO
        return self.rounded(m, e)

    def minus(self, x, y):
        return self.plus(x, opposite(y))

    def times(self, x, y):
        m = x[0] * y[0]
        if m == 0:
            return joined_zero(x, y)
        return self.rounded(m, x[1] + y[1])

    def over(self, x, y):
        if y[0] == 0:
            raise Failed("a quotient by 0")
        if x[0] == 0:
            return joined_zero(x, y)
        # Two digits more than are kept, then one that tells whether anything is left: no tie is missed or made.
        lift = max(0, self.digits + 2 + y[0].bit_length() - x[0].bit_length())
        raised = abs(x[0]) << lift
        m = 2 * (raised // abs(y[0])) + (0 if raised % abs(y[0]) == 0 else 1)
        return self.rounded(-m if has_minus(x) != has_minus(y) else m, x[1] - y[1] - lift - 1)

    def root(self, x):
        if x[0] == 0:
            return x
        if x[0] < 0:
            raise Failed("a root of one below 0")
        # The power that is left must be even, to be halved; the last digit tells whether anything is left.
        lift = 2 * self.digits + 4 + x[1] % 2
        raised = x[0] << lift
        whole = whole_root(raised)
        m = 2 * whole + (0 if whole * whole == raised else 1)
        return self.rounded(m, (x[1] - lift) // 2 - 1)

    def fused(self, x, y, z):
        """[x y + z]"""
        return self.plus(exact_product(x, y), z)

    def fused_less(self, x, y, z):
        """[x y - z]"""
        return self.plus(exact_product(x, y), opposite(z))

    def less_fused(self, x, y, z):
        """[z - x y]"""
        return self.plus(opposite(exact_product(x, y)), z)

    def fused_opposite(self, x, y, z):
        """[- x y - z]"""
        return self.plus(opposite(exact_product(x, y)), opposite(z))


def make_doubles():
    return Kind(53, -1074, 971, 63, 8)


def make_singles():
    return Kind(24, -149, 104, 31, 16)
