"""Orders: bounds for three substances, materials, and the formulas made of them.

A call's answer is a list of whole numbers; a refusal is a list of one number below 0.
"""

SUBSTANCES = 3
MOST_BOUND = 10000
MOST_PART = 1000
MOST_DROPS = 6
MOST_MATERIALS = 4
MOST_BELOW = 10000

BEGINS = 0
MATERIAL = 1
CHECK = 2
STRONGEST = 3

WRONG_NUMBER = -1
MAY_NOT_BE = -4
NO_ROOM = -5
NO_FORMULA = -6


# What a drop holds of each substance, and how many drops are wanted and may be.
class Material:
    def __init__(self, parts, wanted, most):
        self.parts = parts
        self.wanted = wanted
        self.most = most


# The bounds and the materials that a line's calls are about.
class Order:
    def __init__(self):
        self.bounds = [MOST_BOUND] * SUBSTANCES
        self.materials = []


# A formula, the share that it may be sold at, and by how much it is changed.
class Offer:
    def __init__(self, formula, share, changed):
        self.formula = formula
        self.share = share
        self.changed = changed


# Takes number by number from a list, which stays as it is.
class Reader:
    def __init__(self, numbers):
        self.numbers = numbers
        self.place = 0

    def at_end(self):
        return self.place == len(self.numbers)

    def take(self, count):
        taken = self.numbers[self.place:self.place + count]
        self.place = self.place + count
        return taken

    def take_one(self):
        return self.take(1)[0]


# The fraction above by below as a tuple in lowest terms; below is not 0.
def lowest_terms(above, below):
    divisor = above
    rest = below
    while rest > 0:
        remainder = divisor % rest
        divisor = rest
        rest = remainder
    return (above // divisor, below // divisor)


# Above 0 if share is greater than other, 0 if they are the same, below 0 else.
def stronger_by(share, other):
    return share[0] * other[1] - other[0] * share[1]


# How many thousandths of a drop of the substance are in the formula.
def amount_of(order, formula, substance):
    return sum([drops * oil.parts[substance] for drops, oil in zip(formula, order.materials)])


# The share, maybe above 1, at which the substance is just at its bound; None if there is none of it.
def share_at_bound(order, formula, substance):
    amount = amount_of(order, formula, substance)
    if amount == 0:
        return None
    # share * amount : (1000 * drops) is to be bound : 10000; the thousand is cut from both sides.
    return lowest_terms(order.bounds[substance] * sum(formula), 10 * amount)


# The greatest share that the formula, of one drop at the least, may be sold at.
def share_of(order, formula):
    greatest = (1, 1)
    for substance in range(SUBSTANCES):
        share = share_at_bound(order, formula, substance)
        if share is not None and stronger_by(greatest, share) > 0:
            greatest = share
    return greatest


# The substances that are in the formula and just at their bounds at its greatest share.
def holding_back(order, formula, greatest):
    return [substance for substance in range(SUBSTANCES) if share_at_bound(order, formula, substance) == greatest]


def changed_by(order, formula):
    return sum([abs(drops - oil.wanted) for drops, oil in zip(formula, order.materials)])


def may_be(order, formula):
    for drops, oil in zip(formula, order.materials):
        if drops > oil.most:
            return False
    return sum(formula) > 0


# All formulas that may be, the earliest first.
def formulas_that_may_be(order):
    formulas = [[]]
    for oil in order.materials:
        longer = []
        for formula in formulas:
            for drops in range(oil.most + 1):
                longer.append(formula + [drops])
        formulas = longer
    return [formula for formula in formulas if sum(formula) > 0]


def offer_of(order, formula):
    return Offer(formula, share_of(order, formula), changed_by(order, formula))


def better_as_strongest(offer, other):
    gain = stronger_by(offer.share, other.share)
    return gain > 0 or (gain == 0 and offer.changed < other.changed)


def better_as_nearest(offer, other):
    if offer.changed == other.changed:
        return stronger_by(offer.share, other.share) > 0
    return offer.changed < other.changed


# Tells of the best of the offers, which come with the earliest formula first.
def best_answer(offers, better):
    best = None
    as_good = 0
    for offer in offers:
        if best is None or better(offer, best):
            best = offer
            as_good = 1
        elif not better(best, offer):
            as_good = as_good + 1
    if best is None:
        return [NO_FORMULA]
    return [0, best.share[0], best.share[1], best.changed, as_good] + best.formula


def begins(order, bounds):
    if max(bounds) > MOST_BOUND:
        return [WRONG_NUMBER]
    order.bounds = bounds
    order.materials = []
    return [0]


def material(order, parts, wanted, most):
    if max(parts) > MOST_PART or wanted > most or most > MOST_DROPS:
        return [WRONG_NUMBER]
    if len(order.materials) == MOST_MATERIALS:
        return [NO_ROOM]
    order.materials.append(Material(parts, wanted, most))
    return [len(order.materials) - 1]


def check(order, formula):
    if len(formula) != len(order.materials):
        return [WRONG_NUMBER]
    if not may_be(order, formula):
        return [MAY_NOT_BE]
    share = share_of(order, formula)
    return [0, share[0], share[1], changed_by(order, formula)] + holding_back(order, formula, share)


def strongest(order, drops):
    # A formula changed too much is left out before its share is worked out.
    formulas = [formula for formula in formulas_that_may_be(order) if changed_by(order, formula) <= drops]
    return best_answer([offer_of(order, formula) for formula in formulas], better_as_strongest)


def nearest(order, above, below):
    if above < 1 or above > below or below > MOST_BELOW:
        return [WRONG_NUMBER]
    offers = [offer_of(order, formula) for formula in formulas_that_may_be(order)]
    strong = [offer for offer in offers if stronger_by(offer.share, (above, below)) >= 0]
    return best_answer(strong, better_as_nearest)


def next_answer(order, reader):
    call = reader.take_one()
    if call == BEGINS:
        return begins(order, reader.take(SUBSTANCES))
    if call == MATERIAL:
        parts = reader.take(SUBSTANCES)
        drops = reader.take(2)
        return material(order, parts, drops[0], drops[1])
    if call == CHECK:
        return check(order, reader.take(reader.take_one()))
    if call == STRONGEST:
        return strongest(order, reader.take_one())
    # No other calls are handed in: what is left is nearest.
    fraction = reader.take(2)
    return nearest(order, fraction[0], fraction[1])


# Answers the calls on a new order: for each, how many numbers are answered, then these.
def answers(calls):
    order = Order()
    reader = Reader(calls)
    told = []
    while not reader.at_end():
        answer = next_answer(order, reader)
        told.append(len(answer))
        told.extend(answer)
    return told
