"""Powers of x with great exponents, modulo a polynomial and a number: they tell far terms of what keeps a linear rule.

A polynomial of several coefficients is one integer here, with so many bits for each that what is
made of them has room: so it is multiplied at once, and only its coefficients are reduced one by one.
"""


def power_of_x(rule, depth, modulus):
    """The coefficients, the lowest first, of x with an exponent, modulo a number and what a rule tells to be 0.

    The rule tells that x with its length as exponent is the sum of rule[i] times x with i + 1 less.
    """
    rule = [times % modulus for times in rule]
    if len(rule) == 0:
        return []
    if len(rule) == 1:
        return [power_of_number(rule[0], depth, modulus)]
    if len(rule) == 2:
        return power_of_pair(rule, depth, modulus)
    return Packed(rule, modulus).power(depth)


def power_of_number(number, exponent, modulus):
    """The remainder of a power of a number."""
    found = 1 % modulus
    for place in reversed(range(exponent.bit_length())):
        found = found * found % modulus
        if (exponent >> place) & 1 == 1:
            found = found * number % modulus
    return found


def power_of_pair(rule, exponent, modulus):
    """The two coefficients of a power of x by a rule of two terms."""
    more, less = rule
    low, high = 1 % modulus, 0
    for place in reversed(range(exponent.bit_length())):
        square = high * high % modulus
        low, high = (low * low + square * less) % modulus, (2 * low * high + square * more) % modulus
        if (exponent >> place) & 1 == 1:
            low, high = high * less % modulus, (low + high * more) % modulus
    return [low, high]


class Packed:
    """Polynomials modulo a rule of at least two terms, packed to integers.

    _above has what the powers of x are that a square has beyond those that are kept, the lowest first.
    """

    def __init__(self, rule, modulus):
        self._many = len(rule)
        self._modulus = modulus
        # A coefficient of a square is less than many squares of the modulus, and what is reduced adds as much.
        self._width = 2 * modulus.bit_length() + (2 * self._many + 1).bit_length()
        self._mask = (1 << self._width) - 1
        self._whole_mask = (1 << (self._width * self._many)) - 1
        self._above = [self._packed(rule[::-1])]
        while len(self._above) < self._many:
            self._above.append(self._reduced(self._times_x(self._above[-1])))

    def _packed(self, coefficients):
        found = 0
        for coefficient in reversed(coefficients):
            found = (found << self._width) | coefficient
        return found

    def _told(self, packed):
        """The list of the coefficients, each reduced."""
        mask, width, modulus = self._mask, self._width, self._modulus
        return [((packed >> place) & mask) % modulus for place in range(0, width * self._many, width)]

    def _reduced(self, packed):
        return self._packed(self._told(packed))

    def _times_x(self, packed):
        packed = packed << self._width
        top = (packed >> (self._width * self._many)) % self._modulus
        return (packed & self._whole_mask) + top * self._above[0]

    def _squared(self, packed):
        square = packed * packed
        found = square & self._whole_mask
        above = square >> (self._width * self._many)
        for packed_power in self._above:
            if above == 0:
                break
            found += (above & self._mask) % self._modulus * packed_power
            above = above >> self._width
        return found

    def power(self, exponent):
        """The coefficients of a power of x."""
        found = 1 % self._modulus
        for place in reversed(range(exponent.bit_length())):
            found = self._squared(found)
            if (exponent >> place) & 1 == 1:
                found = self._times_x(found)
            found = self._reduced(found)
        return self._told(found)
