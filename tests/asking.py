"""Writes calls down as lists, splits what is answered, and counts out plainly what is to be answered."""

from fractions import Fraction
from itertools import product

from drawnoils.orders import answers

LARGEST = 4294967295


def begins(*bounds):
    return [0, *bounds]


def material(parts, wanted, most):
    return [1, *parts, wanted, most]


def check(*formula):
    return [2, len(formula), *formula]


def strongest(drops):
    return [3, drops]


def nearest(p, q):
    return [4, p, q]


def joined(calls):
    return [number for call in calls for number in call]


def split(told):
    rows = []
    at = 0
    while at < len(told):
        rows.append(told[at + 1:at + 1 + told[at]])
        at += 1 + told[at]
    return rows


def ask(*calls):
    """What each of the calls on one new order is answered."""
    rows = split(answers(joined(calls)))
    assert len(rows) == len(calls)
    return rows


def last(*calls):
    """What the last of the calls is answered."""
    return ask(*calls)[-1]


class Plain:
    """The document's words, gone through formula by formula with fractions."""

    def __init__(self):
        self.bounds = (10000, 10000, 10000)
        self.materials = []

    def answer(self, call):
        return (self.begins, self.material, self.check, self.strongest, self.nearest)[call[0]](call[1:])

    def begins(self, bounds):
        if any(bound > 10000 for bound in bounds):
            return [-1]
        self.bounds, self.materials = bounds, []
        return [0]

    def material(self, numbers):
        if any(part > 1000 for part in numbers[:3]) or not numbers[3] <= numbers[4] <= 6:
            return [-1]
        if len(self.materials) == 4:
            return [-5]
        self.materials.append(numbers)
        return [len(self.materials) - 1]

    def pure(self, formula, substance):
        """What share of the drops the substance is."""
        amount = sum(drops * numbers[substance] for drops, numbers in zip(formula, self.materials))
        return Fraction(amount, 1000 * sum(formula))

    def share(self, formula):
        pures = [self.pure(formula, substance) for substance in range(3)]
        return min([Fraction(1)] + [Fraction(bound, 10000) / pure for bound, pure in zip(self.bounds, pures) if pure])

    def changed(self, formula):
        return sum(abs(drops - numbers[3]) for drops, numbers in zip(formula, self.materials))

    def may_be(self, formula):
        return any(formula) and all(drops <= numbers[4] for drops, numbers in zip(formula, self.materials))

    def check(self, numbers):
        formula = numbers[1:]
        if len(formula) != len(self.materials):
            return [-1]
        if not self.may_be(formula):
            return [-4]
        share = self.share(formula)
        back = [substance for substance in range(3)
                if self.pure(formula, substance)
                and share * self.pure(formula, substance) == Fraction(self.bounds[substance], 10000)]
        return [0, share.numerator, share.denominator, self.changed(formula), *back]

    def best(self, key, fits):
        """The answer about the formulas that fit and whose key is the least."""
        ranges = [range(numbers[4] + 1) for numbers in self.materials]
        told = [(self.share(formula), self.changed(formula), formula)
                for formula in product(*ranges) if any(formula)]
        told = [row for row in told if fits(*row[:2])]
        if not told:
            return [-6]
        least = min(key(*row[:2]) for row in told)
        good = [row for row in told if key(*row[:2]) == least]
        share, changed, formula = min(good, key=lambda row: row[2])
        return [0, share.numerator, share.denominator, changed, len(good), *formula]

    def strongest(self, numbers):
        return self.best(lambda share, changed: (-share, changed), lambda share, changed: changed <= numbers[0])

    def nearest(self, numbers):
        p, q = numbers
        if not 1 <= p <= q <= 10000:
            return [-1]
        return self.best(lambda share, changed: (changed, -share), lambda share, changed: share >= Fraction(p, q))


def plain_answers(calls):
    order = Plain()
    return [order.answer(call) for call in calls]
