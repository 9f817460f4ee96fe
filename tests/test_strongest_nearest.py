"""The calls strongest and nearest: which formula is the best, how many are as good, and what they refuse."""

import unittest

from asking import LARGEST, ask, begins, check, last, material, nearest, strongest

NEVER = material((0, 0, 0), 0, 0)


class Strongest(unittest.TestCase):
    # One oil with much of the first substance, one with none: the more of the second the stronger.
    OILS = [begins(1000, 10000, 10000), material((1000, 0, 0), 2, 6), material((0, 0, 0), 1, 3)]

    def test_by_drops_that_may_be_changed(self):
        told = ask(*self.OILS, *[strongest(drops) for drops in range(5)])[3:]
        self.assertEqual(told, [[0, 3, 20, 0, 1, 2, 1],
                                [0, 1, 5, 1, 2, 1, 1],
                                [0, 1, 1, 2, 1, 0, 1],
                                [0, 1, 1, 2, 1, 0, 1],
                                [0, 1, 1, 2, 1, 0, 1]])

    def test_drops_as_many_as_can_be_told(self):
        self.assertEqual(last(*self.OILS, strongest(LARGEST)), [0, 1, 1, 2, 1, 0, 1])

    def test_of_0_drops_it_is_the_wanted_formula(self):
        self.assertEqual(last(material((0, 0, 0), 3, 6), NEVER, strongest(0)), [0, 1, 1, 0, 1, 3, 0])
        self.assertEqual(last(begins(0, 0, 0), material((1, 1, 1), 6, 6), strongest(0)), [0, 0, 1, 0, 1, 6])

    def test_of_0_drops_with_nothing_wanted_there_is_none(self):
        oils = [material((0, 0, 0), 0, 6), material((9, 9, 9), 0, 6)]
        self.assertEqual(ask(*oils, strongest(0), strongest(1))[2:], [[-6], [0, 1, 1, 1, 2, 0, 1]])

    def test_the_least_changed_of_the_strongest(self):
        # Pure only with 4 of the second to 1 of the first, or without the first; what is less changed is weaker.
        oils = [begins(2000, 10000, 10000), material((1000, 0, 0), 2, 2), material((0, 0, 0), 2, 6)]
        self.assertEqual(last(*oils, strongest(9)), [0, 1, 1, 2, 1, 0, 2])
        self.assertEqual(last(*oils, strongest(1)), [0, 3, 5, 1, 1, 1, 2])
        self.assertEqual(last(*oils, strongest(0)), [0, 2, 5, 0, 1, 2, 2])

    def test_a_stronger_one_goes_ahead_of_a_less_changed_one(self):
        oils = [begins(100, 10000, 10000), material((1000, 0, 0), 6, 6), material((999, 0, 0), 0, 6)]
        self.assertEqual(last(*oils, strongest(12)), [0, 10, 999, 7, 1, 0, 1])

    def test_of_several_as_good_how_many_and_the_earliest(self):
        free = material((0, 0, 0), 0, 6)
        self.assertEqual(last(free, free, free, strongest(3)), [0, 1, 1, 1, 3, 0, 0, 1])
        self.assertEqual(last(free, free, free, free, strongest(3)), [0, 1, 1, 1, 4, 0, 0, 0, 1])
        # A dark drop fewer, (1, 1, 1), is as good as a clear one more, (2, 1, 2).
        same = [begins(10000, 5000, 10000), material((0, 1000, 0), 2, 6), material((0, 500, 0), 1, 1),
                material((0, 0, 0), 1, 3)]
        self.assertEqual(last(*same, check(2, 1, 1)), [0, 4, 5, 0, 1])
        self.assertEqual(last(*same, strongest(1)), [0, 1, 1, 1, 2, 1, 1, 1])

    def test_earliest_is_fewer_drops_of_the_first_material_that_differs(self):
        grey = [begins(10000, 100, 10000), material((0, 10, 0), 1, 6), material((0, 20, 0), 1, 6),
                material((0, 10, 0), 1, 6)]
        self.assertEqual(last(*grey, strongest(1)), [0, 1, 1, 1, 1, 1, 0, 1])
        self.assertEqual(last(*grey, material((0, 20, 0), 1, 6), strongest(2)), [0, 1, 1, 2, 1, 1, 0, 1, 0])
        even = [material((0, 20, 0), 1, 6)] * 3
        self.assertEqual(last(begins(0, 100, 0), *even, strongest(6)), [0, 1, 2, 0, 1, 1, 1, 1])

    def test_no_materials_or_none_of_any(self):
        self.assertEqual(ask(strongest(0), strongest(LARGEST)), [[-6], [-6]])
        self.assertEqual(last(NEVER, NEVER, NEVER, NEVER, strongest(24)), [-6])

    def test_no_formula_within_the_drops_when_none_is_wanted(self):
        self.assertEqual(last(begins(0, 0, 0), NEVER, material((1, 1, 1), 0, 1), strongest(1)), [0, 0, 1, 1, 1, 0, 1])

    def test_answered_or_refused_it_leaves_all_as_it_was(self):
        told = ask(*self.OILS, check(2, 1), strongest(3), check(2, 1), NEVER, begins(1, 2, 3), strongest(3),
                   material((1, 0, 0), 0, 6), strongest(0), check(2))[3:]
        self.assertEqual(told, [[0, 3, 20, 0, 0], [0, 1, 1, 2, 1, 0, 1], [0, 3, 20, 0, 0], [2], [0], [-6],
                                [0], [-6], [0, 1, 10, 2, 0]])


class Nearest(unittest.TestCase):
    OILS = Strongest.OILS

    def test_by_how_strong_it_is_to_be(self):
        told = ask(*self.OILS, nearest(1, 10), nearest(3, 20), nearest(151, 1000), nearest(1, 5), nearest(201, 1000))
        self.assertEqual(told[3:], [[0, 3, 20, 0, 1, 2, 1],
                                    [0, 3, 20, 0, 1, 2, 1],
                                    [0, 1, 5, 1, 2, 1, 1],
                                    [0, 1, 5, 1, 2, 1, 1],
                                    [0, 1, 1, 2, 1, 0, 1]])

    def test_the_strongest_of_the_least_changed(self):
        oils = [begins(10000, 10000, 100), material((0, 0, 100), 1, 6), material((0, 0, 50), 1, 6)]
        told = ask(*oils, nearest(1, 100), nearest(15, 100), nearest(2, 10))[3:]
        self.assertEqual(told, [[0, 2, 15, 0, 1, 1, 1], [0, 1, 5, 1, 1, 0, 1], [0, 1, 5, 1, 1, 0, 1]])
        # With one drop changed (2, 0, 1) would do, and is earlier, but (2, 1, 0) is stronger.
        oils = [begins(10000, 10000, 100), material((0, 0, 100), 2, 6), material((0, 0, 0), 0, 6),
                material((0, 0, 50), 0, 6)]
        self.assertEqual(ask(*oils, check(2, 0, 1), nearest(11, 100))[4:], [[0, 3, 25, 1, 2], [0, 3, 20, 1, 1, 2, 1, 0]])

    def test_less_changed_goes_ahead_of_stronger(self):
        oils = [begins(100, 0, 0), material((10, 0, 0), 3, 6), material((5, 0, 0), 0, 6)]
        told = ask(begins(50, 0, 0), *oils[1:], nearest(1, 2), nearest(1, 1), nearest(51, 100))[3:]
        self.assertEqual(told, [[0, 1, 2, 0, 1, 3, 0], [0, 1, 1, 4, 1, 0, 1], [0, 4, 7, 1, 1, 3, 1]])

    def test_of_several_as_good_how_many_and_the_earliest(self):
        dark = material((1000, 0, 0), 1, 6)
        oils = [begins(1000, 10000, 10000), dark, dark, material((0, 0, 0), 1, 6)]
        self.assertEqual(last(*oils, nearest(4, 25)), [0, 1, 5, 1, 3, 0, 1, 1])
        free = material((0, 0, 0), 0, 1)
        self.assertEqual(last(NEVER, free, free, nearest(1, 1)), [0, 1, 1, 1, 2, 0, 0, 1])

    def test_p_and_q_at_their_edges(self):
        oil = material((1, 1, 1), 1, 2)
        good = [0, 1, 1, 0, 1, 1]
        told = ask(oil, nearest(1, 1), nearest(1, 10000), nearest(10000, 10000), nearest(9999, 10000))[1:]
        self.assertEqual(told, [good] * 4)
        told = ask(oil, nearest(0, 1), nearest(0, 0), nearest(0, 10000), nearest(1, 0))[1:]
        self.assertEqual(told, [[-1]] * 4)
        told = ask(oil, nearest(2, 1), nearest(10000, 9999), nearest(1, 10001), nearest(10001, 10001))[1:]
        self.assertEqual(told, [[-1]] * 4)
        told = ask(oil, nearest(LARGEST, LARGEST), nearest(LARGEST, 1), nearest(1, LARGEST))[1:]
        self.assertEqual(told, [[-1]] * 3)

    def test_none_is_so_strong(self):
        oils = [begins(5000, 10000, 10000), material((1000, 0, 0), 1, 6)]
        told = ask(*oils, nearest(1, 2), nearest(5001, 10000), nearest(1, 1), nearest(4999, 9999))[2:]
        self.assertEqual(told, [[0, 1, 2, 0, 1, 1], [-6], [-6], [0, 1, 2, 0, 1, 1]])
        self.assertEqual(last(begins(0, 0, 0), material((1, 0, 0), 1, 6), nearest(1, 10000)), [-6])

    def test_no_materials_or_none_of_any(self):
        self.assertEqual(ask(nearest(1, 2)), [[-6]])
        self.assertEqual(last(NEVER, NEVER, NEVER, NEVER, nearest(1, 10000)), [-6])

    def test_wrong_p_and_q_are_told_ahead_of_no_formula(self):
        self.assertEqual(ask(nearest(0, 1), nearest(2, 1), nearest(1, 10001)), [[-1]] * 3)

    def test_answered_or_refused_it_leaves_all_as_it_was(self):
        told = ask(*self.OILS, check(2, 1), nearest(1, 5), nearest(0, 5), check(2, 1), NEVER, begins(0, 2, 3),
                   material((1, 0, 0), 0, 6), nearest(1, 5), check(2), NEVER)[3:]
        self.assertEqual(told, [[0, 3, 20, 0, 0], [0, 1, 5, 1, 2, 1, 1], [-1], [0, 3, 20, 0, 0], [2], [0],
                                [0], [-6], [0, 0, 1, 2, 0], [1]])


if __name__ == "__main__":
    unittest.main()
