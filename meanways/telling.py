"""Products told back from what they are at the tests of a scheme, and lots of tables that tell reports apart."""

from meanways.errors import NoProduct
from meanways.exact import is_fraction
from meanways.forms import with_factors
from meanways.parting import single_test, strict_pairs, strict_tests
from meanways.reports import check_same_level
from meanways.schemes import ROW, is_within
from meanways.tables import WEIGHTS

# At row 0 of the tests the counts are 1, 2 or 3, and the totals of v and w are 1 or 5 and 1 or 7, so the powers of
# these primes tell which factors a product has.
PRIMES = (2, 3, 5, 7)
FIRST_WEIGHT_PRIME = 2


def tests(scheme):
    """The list of the tests of a scheme."""
    return [single_test(scheme)] + strict_tests(scheme)


def _prime_powers(number):
    """The powers of the primes of which a number from 1 on is made, None if it has other primes."""
    found = []
    for prime in PRIMES:
        power = 0
        while number % prime == 0:
            number = number // prime
            power += 1
        found.append(power)
    return found if number == 1 else None


def _answer_powers(answer):
    """The powers of the primes of which an answer is made, None if it is not made in this way."""
    if not is_fraction(answer) or answer[0] < 1:
        return None
    above, below = _prime_powers(answer[0]), _prime_powers(answer[1])
    if above is None or below is None:
        return None
    return [up - down for up, down in zip(above, below)]


def _fits(scheme, upper, powers, first):
    """Whether a product can have these powers at a test (lower, upper), if it has the first ones at (lower, ..)."""
    twos, threes, fives, sevens = powers
    if upper == scheme.closure(ROW) and threes != 0:
        return False
    # What is seen at a lower set is the same for all upper ones, but for the choice between 2 and 3.
    return [twos + threes, fives, sevens] == [first[0] + first[1], first[2], first[3]]


def _checked_powers(scheme, answers):
    """The powers of the primes of all answers; NoProduct if no product has them."""
    pairs = strict_pairs(scheme)
    if not isinstance(answers, (list, tuple)) or len(answers) != 1 + len(pairs):
        raise NoProduct(None)
    found, firsts = [], {}
    for at, answer in enumerate(answers):
        powers = _answer_powers(answer)
        if powers is None:
            raise NoProduct(at)
        if at == 0:
            # All counts are 1 in the single test.
            right = powers[:2] == [0, 0]
        else:
            lower, upper = pairs[at - 1]
            right = _fits(scheme, upper, powers, firsts.setdefault(lower, powers))
        if not right:
            raise NoProduct(at)
        found.append(powers)
    return found


def _count_factors(scheme, told):
    """The factors many(..), also with the power 0, of the product that has these powers of the primes at the tests."""
    found = []
    for (lower, upper), powers in zip(strict_pairs(scheme), told[1:]):
        # At this test many(upper, lower) is 2; all others that are 2 there have been found, as they have a shorter
        # lower set or, with the same one, a shorter upper one.
        known = [power for _, fine, coarse, power in found
                 if is_within(coarse, lower) and not is_within(fine, lower) and is_within(fine, upper)]
        found.append(("many", upper, lower, powers[0] - sum(known)))
    return found


def _total_factors(scheme, told, weight):
    """The factors total(weight, ..), also with the power 0, of the product with these powers at the tests."""
    place = FIRST_WEIGHT_PRIME + WEIGHTS.index(weight)
    # What is seen at a lower set is the same for all upper ones; at the single test totals for all sets are seen.
    seen = {lower: powers[place] for (lower, _), powers in zip(strict_pairs(scheme), told[1:])}
    seen[scheme.closure(ROW)] = told[0][place]
    found = []
    for letters in scheme.closed_sets():
        known = [power for _, _, narrow, power in found if is_within(narrow, letters)]
        found.append(("total", weight, letters, seen[letters] - sum(known)))
    return found


def told_back(scheme, answers):
    """The product that is, at row 0 of the tests of a scheme, what the answers tell."""
    told = _checked_powers(scheme, answers)
    factors = _count_factors(scheme, told)
    for weight in WEIGHTS:
        factors = factors + _total_factors(scheme, told, weight)
    return with_factors((), factors)


def lots(many, size):
    """The ascending list of the ascending tuples of so many different numbers below a number."""
    if size == 0:
        return [()]
    return [lot + (at,) for lot in lots(many, size - 1) for at in range(many) if lot == () or at > lot[-1]]


def least_sufficing(many, suffices):
    """All ascending tuples of numbers that suffice, of which nothing can be left out: by length, then ascending."""
    found = []
    for size in range(many + 1):
        for lot in lots(many, size):
            if not any([all([at in lot for at in less]) for less in found]) and suffices(lot):
                found.append(lot)
    return found


def _parted_pairs(reports, table):
    """The pairs of places at which there are reports that tell unlike of a table."""
    told = [report(table) for report in reports]
    return [(at, beside) for beside in range(len(told)) for at in range(beside) if told[at] != told[beside]]


def _are_apart(pairs, lot, parted):
    """Whether each of the pairs is parted by one of a lot of tables."""
    return all([any([pair in parted[at] for at in lot]) for pair in pairs])


def telling_lots(reports, tables):
    """The ascending list of the least lots of tables that tell any two reports at unlike places apart."""
    for report in reports:
        check_same_level(reports[0], report)
    # The first report is the first one to be asked of each table, so the errors are those by its scheme.
    parted = [_parted_pairs(reports, table) for table in tables]
    pairs = lots(len(reports), 2)
    for size in range(len(tables) + 1):
        found = [lot for lot in lots(len(tables), size) if _are_apart(pairs, lot, parted)]
        if found:
            return found
    return []
