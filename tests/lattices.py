"""Which answers some product has: sums of whole multiples of the powers that each factor has at the tests."""

from fractions import Fraction

import reference

PRIMES = (2, 3, 5, 7)


def powers_of(number):
    """The powers of 2, 3, 5 and 7 of a Fraction above 0, None if it has others."""
    found = []
    top, bottom = number.numerator, number.denominator
    for prime in PRIMES:
        power = 0
        while top % prime == 0:
            top, power = top // prime, power + 1
        while bottom % prime == 0:
            bottom, power = bottom // prime, power - 1
        found.append(power)
    return found if (top, bottom) == (1, 1) else None


class Answers:
    """The answers that products over a scheme have at its tests."""

    def __init__(self, scheme):
        self.scheme = scheme
        pairs, tests = reference.tests_of(scheme)
        self.many = len(tests)
        closed = sorted({reference.closure(scheme, letters) for letters in reference.sets_of(scheme.columns)})
        self.factors = [("many", fine, coarse) for coarse, fine in pairs]
        self.factors += [("total", weight, letters) for weight in "vw" for letters in closed]
        self.tests = [Rows(scheme.columns, rows) for rows in tests]
        self.basis = {}
        for factor in self.factors:
            self.take(sum([powers_of(one) for one in self.at_tests((factor + (1,),))], []))

    def at_tests(self, product):
        """What a product is at row 0 of the tests, as Fractions."""
        return [reference.product_at(product, test, 0) for test in self.tests]

    def take(self, row):
        """Puts a row into the basis, in which each row begins with another number of zeros."""
        for place in range(len(row)):
            if row[place] == 0:
                continue
            if place not in self.basis:
                self.basis[place] = row
                return
            mine = self.basis[place]
            while row[place]:
                times = mine[place] // row[place]
                mine, row = row, [one - times * other for one, other in zip(mine, row)]
            self.basis[place] = mine

    def first_wrong(self, answers):
        """The number of the first answer such that no product has those up to it, None if one has all."""
        rest = []
        for at, answer in enumerate(answers):
            powers = powers_of(answer) if answer > 0 else None
            if powers is None:
                break
            rest += powers
        place = 0
        while place < len(rest):
            if rest[place]:
                mine = self.basis.get(place)
                if mine is None or rest[place] % mine[place]:
                    return place // 4
                times = rest[place] // mine[place]
                rest = [one - times * other for one, other in zip(rest, mine)]
            place += 1
        return None if len(rest) == 4 * self.many else len(rest) // 4


class Rows:
    """Columns and rows, as reference asks for them."""

    def __init__(self, columns, rows):
        self.columns = columns
        self.rows = rows


def pairs_of(fractions):
    """Fractions as the program writes them."""
    return [reference.pair(Fraction(one)) for one in fractions]
