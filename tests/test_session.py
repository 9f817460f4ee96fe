"""The function answers as a whole: its form, what it leaves alone, and many orders counted out plainly."""

import random
import unittest

from asking import LARGEST, answers, ask, begins, check, joined, material, nearest, plain_answers, split, strongest

SHORT = [begins(1000, 500, 10000), material((1000, 0, 20), 2, 6), material((0, 300, 20), 1, 4), check(2, 1), check(2),
         strongest(2), nearest(1, 2), nearest(1, 1), nearest(0, 1), begins(0, 0, 10001), material((0, 0, 0), 1, 0)]


def some_number(chance, most):
    """Often an edge, seldom too large a number."""
    return chance.choice([0, most, chance.randrange(most + 1), chance.randrange(most + 1), chance.randrange(most + 1)])


def some_parts(chance):
    grain = chance.choice([1, 100, 250, 500])
    return [some_number(chance, 1000 // grain) * grain for at in range(3)]


def some_material(chance, sorts):
    """Of few sorts, so that several formulas are as good."""
    parts = list(chance.choice(sorts))
    most = chance.randrange(7)
    if chance.randrange(30) == 0:
        return material(parts, most + 1, most)
    if chance.randrange(30) == 0:
        parts[chance.randrange(3)] = chance.choice([1001, LARGEST])
    return material(parts, chance.randrange(most + 1), most)


def some_bounds(chance):
    grain = chance.choice([1, 500, 1000, 2500])
    bounds = [some_number(chance, 10000 // grain) * grain for at in range(3)]
    if chance.randrange(10) == 0:
        bounds[chance.randrange(3)] = chance.choice([10001, LARGEST])
    return begins(*bounds)


def some_check(chance, there):
    formula = [chance.randrange(5) for at in range(there)]
    if chance.randrange(8) == 0:
        formula = [chance.randrange(8) for at in range(chance.randrange(7))]
    return check(*formula)


def some_search(chance):
    if chance.randrange(2):
        return strongest(chance.choice([0, 1, 2, 3, 4, 6, 24, LARGEST]))
    q = chance.choice([1, 2, 10, 97, 10000, 10001, LARGEST])
    return nearest(chance.choice([0, 1, chance.randrange(q + 1), chance.randrange(q + 1), q, q + 1]), q)


def some_calls(chance, there, sorts):
    pick = chance.randrange(12)
    if pick == 0:
        return [some_material(chance, sorts)]
    if pick == 1:
        return [some_bounds(chance)] + [some_material(chance, sorts) for at in range(there)]
    if pick < 6:
        return [some_search(chance)]
    return [some_check(chance, min(4, there))]


def some_line(seed):
    """A line of calls, always the same for the same seed."""
    chance = random.Random(seed)
    there = chance.randrange(6)
    sorts = [some_parts(chance) for at in range(1 + chance.randrange(3))]
    calls = [some_bounds(chance)] if chance.randrange(6) else []
    calls += [some_material(chance, sorts) for at in range(there)]
    for at in range(chance.randrange(1, 30)):
        calls += some_calls(chance, there, sorts)
    searches = [at for at, call in enumerate(calls) if call[0] > 2]
    return [call for at, call in enumerate(calls) if at not in searches[5:]][:60]


class Form(unittest.TestCase):
    def test_each_answer_stands_behind_its_count(self):
        calls = [0, 1000, 500, 10000, 1, 1000, 0, 0, 1, 6, 2, 1, 2, 2, 0, 3, 0, 4, 1, 10, 4, 1, 9, 0, 0, 0, 10001]
        self.assertEqual(answers(calls), [1, 0, 1, 0, 5, 0, 1, 10, 1, 0, 1, -1, 6, 0, 1, 10, 0, 1, 1,
                                          6, 0, 1, 10, 0, 1, 1, 1, -6, 1, -1])

    def test_one_call(self):
        self.assertEqual(answers([0, 0, 0, 0]), [1, 0])
        self.assertEqual(answers([1, 0, 0, 0, 0, 0]), [1, 0])
        self.assertEqual(answers([2, 0]), [1, -4])
        self.assertEqual(answers([3, 0]), [1, -6])
        self.assertEqual(answers([4, 1, 1]), [1, -6])

    def test_sixty_calls(self):
        self.assertEqual(ask(*[check()] * 60), [[-4]] * 60)

    def test_a_refused_formula_is_read_over_whole(self):
        for count in range(1, 7):
            self.assertEqual(ask(check(*[3] * count), begins(1, 2, 3)), [[-1], [0]])

    def test_answers_are_plain_whole_numbers_in_a_list(self):
        told = answers(joined(SHORT))
        self.assertIs(type(told), list)
        self.assertEqual({type(number) for number in told}, {int})

    def test_the_largest_numbers_everywhere(self):
        big = LARGEST
        told = ask(begins(big, big, big), material((big, big, big), big, big), check(*[big] * 6), strongest(big),
                   nearest(big, big))
        self.assertEqual(told, [[-1], [-1], [-1], [-6], [-1]])


class LeftAlone(unittest.TestCase):
    def test_what_is_handed_in_is_as_it_was(self):
        handed = joined(SHORT)
        before = list(handed)
        answers(handed)
        self.assertEqual(handed, before)

    def test_what_is_given_back_is_not_what_was_handed_in(self):
        handed = joined(SHORT)
        first = answers(handed)
        told = list(first)
        handed.clear()
        self.assertEqual(first, told)

    def test_a_second_time_it_answers_as_the_first(self):
        first = answers(joined(SHORT))
        kept = list(first)
        answers([0, 0, 0, 0, 1, 1000, 1000, 1000, 6, 6])
        second = answers(joined(SHORT))
        self.assertEqual(second, kept)
        first.append(7)
        self.assertEqual(answers(joined(SHORT)), kept)

    def test_every_time_the_order_is_new(self):
        for time in range(2):
            self.assertEqual(answers([1, 1000, 0, 0, 1, 1, 2, 1, 1, 0, 0, 0, 0]), [1, 0, 5, 0, 1, 1, 0, 0, 1, 0])


class CountedOut(unittest.TestCase):
    def test_the_short_line(self):
        self.assertEqual(ask(*SHORT), plain_answers(SHORT))

    def test_many_lines(self):
        for seed in range(400):
            calls = some_line(seed)
            with self.subTest(seed=seed):
                self.assertEqual(split(answers(joined(calls))), plain_answers(calls))

    def test_every_formula_of_four_materials(self):
        calls = [begins(900, 1100, 1300), material((600, 100, 200), 1, 1), material((200, 700, 100), 0, 2),
                 material((90, 110, 130), 1, 1), material((300, 300, 900), 2, 2)]
        calls += [check(a, b, c, d) for a in range(3) for b in range(3) for c in range(2) for d in range(3)]
        self.assertEqual(len(calls), 59)
        self.assertEqual(ask(*calls), plain_answers(calls))


class Largest(unittest.TestCase):
    def test_four_materials_of_6_drops_and_60_calls(self):
        calls = [begins(1234, 2345, 3456), material((997, 3, 501), 3, 6), material((11, 991, 499), 2, 6),
                 material((307, 311, 983), 1, 6), material((101, 103, 107), 4, 6)]
        calls += [strongest(24), strongest(5), nearest(1, 2), nearest(9999, 10000), nearest(1, 10000)]
        calls += [check(at % 7, (at * 3) % 7, (at * 5 + 1) % 7, 6) for at in range(50)]
        self.assertEqual(len(calls), 60)
        self.assertEqual(ask(*calls), plain_answers(calls))

    def test_all_2400_formulas_are_as_strong_and_the_changes_decide(self):
        free = material((0, 0, 0), 3, 6)
        self.assertEqual(ask(free, free, free, free, strongest(24), nearest(1, 1))[4:], [[0, 1, 1, 0, 1, 3, 3, 3, 3]] * 2)


if __name__ == "__main__":
    unittest.main()
