"""The call check: how strong, by how much it is changed, what holds it back, and what it refuses."""

import unittest

from asking import LARGEST, ask, begins, check, last, material


class HowStrong(unittest.TestCase):
    def test_a_share_between_in_lowest_terms(self):
        self.assertEqual(last(begins(500, 10000, 10000), material((300, 0, 0), 1, 6), check(1)), [0, 1, 6, 0, 0])
        self.assertEqual(last(begins(700, 0, 0), material((300, 0, 0), 1, 6), check(4)), [0, 7, 30, 3, 0])
        self.assertEqual(last(begins(9999, 0, 0), material((1000, 0, 0), 1, 6), check(1)), [0, 9999, 10000, 0, 0])
        self.assertEqual(last(begins(1, 0, 0), material((1000, 0, 0), 1, 6), check(1)), [0, 1, 10000, 0, 0])

    def test_materials_are_weighed_by_their_drops(self):
        oils = [material((900, 0, 10), 1, 6), material((0, 300, 10), 2, 6), material((100, 0, 0), 3, 6)]
        # 2 * 900 + 100 of 5000 thousandths of the first: 38 of 100, of which 19 are let through.
        self.assertEqual(last(begins(1900, 10000, 10000), *oils, check(2, 2, 1)), [0, 1, 2, 3, 0])
        # 2 * 300 of 3000 thousandths of the second: 1 of 5.
        self.assertEqual(last(begins(10000, 700, 10000), *oils, check(1, 2, 0)), [0, 7, 20, 3, 1])

    def test_share_0_is_0_by_1_and_the_forbidden_hold_it_back(self):
        self.assertEqual(last(begins(0, 5, 5), material((1, 1000, 1000), 1, 1), check(1)), [0, 0, 1, 0, 0])
        self.assertEqual(last(begins(0, 5, 0), material((1, 1000, 700), 1, 1), check(1)), [0, 0, 1, 0, 0, 2])
        self.assertEqual(last(begins(0, 0, 0), material((3, 2, 1), 1, 1), check(1)), [0, 0, 1, 0, 0, 1, 2])

    def test_a_bound_of_0_does_nothing_where_there_is_none_of_the_substance(self):
        self.assertEqual(last(begins(0, 0, 0), material((0, 0, 0), 1, 1), check(1)), [0, 1, 1, 0])
        self.assertEqual(last(begins(0, 100, 0), material((0, 200, 0), 1, 1), check(1)), [0, 1, 20, 0, 1])
        oils = [material((5, 0, 0), 1, 1), material((0, 5, 0), 1, 1)]
        self.assertEqual(last(begins(0, 10000, 0), *oils, check(0, 1)), [0, 1, 1, 1])

    def test_pure_with_a_substance_just_at_its_bound(self):
        self.assertEqual(last(begins(1000, 5000, 10000), material((100, 499, 0), 1, 1), check(1)), [0, 1, 1, 0, 0])
        self.assertEqual(last(begins(1000, 5000, 10000), material((100, 500, 1000), 1, 1), check(1)),
                         [0, 1, 1, 0, 0, 1, 2])

    def test_pure_with_none_at_its_bound(self):
        self.assertEqual(last(begins(1001, 5001, 10000), material((100, 500, 999), 1, 1), check(1)), [0, 1, 1, 0])
        self.assertEqual(last(material((0, 0, 0), 6, 6), check(6)), [0, 1, 1, 0])

    def test_one_ten_thousandth_above_its_bound_is_not_pure(self):
        self.assertEqual(last(begins(999, 0, 0), material((100, 0, 0), 1, 1), check(1)), [0, 999, 1000, 0, 0])

    def test_one_two_and_three_hold_it_back(self):
        bounds = begins(100, 200, 300)
        self.assertEqual(last(bounds, material((99, 200, 299), 1, 1), check(1)), [0, 1, 10, 0, 1])
        self.assertEqual(last(bounds, material((100, 199, 300), 1, 1), check(1)), [0, 1, 10, 0, 0, 2])
        self.assertEqual(last(bounds, material((100, 200, 299), 1, 1), check(1)), [0, 1, 10, 0, 0, 1])
        self.assertEqual(last(bounds, material((99, 200, 300), 1, 1), check(1)), [0, 1, 10, 0, 1, 2])
        self.assertEqual(last(bounds, material((100, 200, 300), 1, 1), check(1)), [0, 1, 10, 0, 0, 1, 2])

    def test_the_strictest_bound_decides_whichever_it_is(self):
        for at in range(3):
            bounds = [400, 400, 400]
            bounds[at] = 100
            self.assertEqual(last(begins(*bounds), material((200, 200, 200), 1, 1), check(1)), [0, 1, 20, 0, at])

    def test_parts_are_each_by_itself(self):
        self.assertEqual(last(material((1000, 1000, 1000), 1, 1), check(1)), [0, 1, 1, 0, 0, 1, 2])

    def test_by_how_many_drops_it_is_changed(self):
        oils = [material((0, 0, 0), 2, 6), material((0, 0, 0), 4, 6), material((0, 0, 0), 0, 6)]
        told = ask(*oils, check(2, 4, 0), check(3, 4, 0), check(2, 3, 0), check(3, 3, 1), check(0, 0, 6))[3:]
        self.assertEqual([row[3] for row in told], [0, 1, 1, 3, 12])


class Refusals(unittest.TestCase):
    def test_not_a_number_for_each_material(self):
        for there in range(5):
            oils = [material((1, 1, 1), 1, 6)] * there
            for handed in range(7):
                told = last(*oils, check(*[1] * handed))
                if handed != there:
                    self.assertEqual(told, [-1])
                elif there:
                    self.assertEqual(told, [0, 1, 1, 0])

    def test_no_drops(self):
        for there in range(5):
            oils = [material((1, 1, 1), 0, 6)] * there
            self.assertEqual(last(*oils, check(*[0] * there)), [-4])

    def test_one_drop_is_enough(self):
        oils = [material((0, 0, 0), 0, 1)] * 4
        self.assertEqual(last(*oils, check(0, 0, 0, 1)), [0, 1, 1, 1])

    def test_more_drops_than_there_may_be(self):
        oils = [material((0, 0, 0), 0, 6), material((0, 0, 0), 2, 3), material((0, 0, 0), 0, 0)]
        told = ask(*oils, check(6, 3, 0), check(7, 3, 0), check(6, 4, 0), check(6, 3, 1), check(0, LARGEST, 0))[3:]
        self.assertEqual(told, [[0, 1, 1, 7], [-4], [-4], [-4], [-4]])

    def test_a_count_amiss_is_told_ahead_of_a_formula_that_may_not_be(self):
        oils = [material((0, 0, 0), 0, 6), material((0, 0, 0), 2, 3)]
        told = ask(*oils, check(7), check(0), check(), check(0, 0, 0), check(LARGEST, 9, 9))[2:]
        self.assertEqual(told, [[-1]] * 5)

    def test_refused_it_leaves_all_as_it_was(self):
        told = ask(begins(10, 20, 30), material((10, 0, 0), 1, 6), check(2), check(7), check(0), check(1, 1), check(2),
                   material((0, 0, 0), 0, 0))
        self.assertEqual(told, [[0], [0], [0, 1, 10, 1, 0], [-4], [-4], [-1], [0, 1, 10, 1, 0], [1]])

    def test_answered_it_leaves_all_as_it_was(self):
        told = ask(begins(10, 20, 30), material((10, 0, 0), 1, 6), check(2), check(6), check(1), check(2))
        self.assertEqual(told[2:], [[0, 1, 10, 1, 0], [0, 1, 10, 5, 0], [0, 1, 10, 0, 0], [0, 1, 10, 1, 0]])


if __name__ == "__main__":
    unittest.main()
