"""The calls begins and material: what they answer, what they refuse, and the order behind a refusal."""

import unittest

from asking import LARGEST, ask, begins, check, last, material, strongest

HALF = material((500, 0, 0), 1, 6)


class Begins(unittest.TestCase):
    def test_answers_0(self):
        self.assertEqual(ask(begins(10, 200, 3000)), [[0]])

    def test_bounds_of_0_and_10000_are_taken(self):
        self.assertEqual(ask(begins(0, 0, 0), begins(10000, 10000, 10000), begins(0, 10000, 0)), [[0], [0], [0]])

    def test_a_bound_above_10000_is_refused_wherever_it_stands(self):
        for bound in (10001, LARGEST):
            for at in range(3):
                bounds = [5, 5, 5]
                bounds[at] = bound
                self.assertEqual(ask(begins(*bounds)), [[-1]])

    def test_all_bounds_are_10000_at_the_beginning(self):
        for substance in range(3):
            parts = [999, 999, 999]
            parts[substance] = 1000
            self.assertEqual(last(material(parts, 1, 1), check(1)), [0, 1, 1, 0, substance])

    def test_each_bound_is_for_its_own_substance(self):
        bounds = begins(1000, 2000, 4000)
        self.assertEqual(last(bounds, material((1000, 0, 0), 1, 1), check(1)), [0, 1, 10, 0, 0])
        self.assertEqual(last(bounds, material((0, 1000, 0), 1, 1), check(1)), [0, 1, 5, 0, 1])
        self.assertEqual(last(bounds, material((0, 0, 1000), 1, 1), check(1)), [0, 2, 5, 0, 2])

    def test_again_behind_materials_there_are_none_and_the_bounds_are_new(self):
        told = ask(begins(1000, 0, 0), HALF, HALF, begins(2000, 0, 0), check(1, 1), check(), strongest(9),
                   material((1000, 0, 0), 0, 6), check(1))
        self.assertEqual(told, [[0], [0], [1], [0], [-1], [-4], [-6], [0], [0, 1, 5, 1, 0]])

    def test_refused_it_leaves_bounds_and_materials(self):
        told = ask(begins(1000, 2000, 3000), HALF, check(2), begins(1, 1, 10001), check(2), HALF)
        self.assertEqual(told, [[0], [0], [0, 1, 5, 1, 0], [-1], [0, 1, 5, 1, 0], [1]])


class Material(unittest.TestCase):
    def test_answers_its_number_from_0(self):
        self.assertEqual(ask(HALF, HALF, HALF, HALF), [[0], [1], [2], [3]])

    def test_the_edges_are_taken(self):
        rows = [((0, 0, 0), 0, 0), ((1000, 1000, 1000), 6, 6), ((0, 1000, 0), 0, 6), ((1, 2, 3), 3, 4)]
        self.assertEqual(ask(*[material(*row) for row in rows]), [[0], [1], [2], [3]])

    def test_a_part_above_1000_is_refused_wherever_it_stands(self):
        for part in (1001, LARGEST):
            for at in range(3):
                parts = [0, 0, 0]
                parts[at] = part
                self.assertEqual(ask(material(parts, 0, 1)), [[-1]])

    def test_most_above_6_is_refused(self):
        for most in (7, LARGEST):
            self.assertEqual(ask(material((0, 0, 0), 0, most)), [[-1]])
            self.assertEqual(ask(material((0, 0, 0), most, most)), [[-1]])

    def test_wanted_above_most_is_refused(self):
        for wanted, most in ((1, 0), (4, 3), (7, 6), (LARGEST, 6)):
            self.assertEqual(ask(material((0, 0, 0), wanted, most)), [[-1]])

    def test_a_fifth_is_refused_and_none_is_added(self):
        told = ask(HALF, HALF, HALF, HALF, HALF, check(1, 1, 1, 1), check(1, 1, 1, 1, 1), HALF)
        self.assertEqual(told, [[0], [1], [2], [3], [-5], [0, 1, 1, 0], [-1], [-5]])

    def test_a_wrong_number_is_told_ahead_of_no_room(self):
        fifths = [material((1001, 0, 0), 0, 0), material((0, 0, 0), 0, 7), material((0, 0, 0), 2, 1)]
        self.assertEqual(ask(HALF, HALF, HALF, HALF, *fifths)[4:], [[-1], [-1], [-1]])

    def test_refused_for_a_number_none_is_added(self):
        told = ask(begins(1000, 0, 0), HALF, material((0, 0, 1001), 0, 0), check(2), check(2, 0), HALF)
        self.assertEqual(told, [[0], [0], [-1], [0, 1, 5, 1, 0], [-1], [1]])

    def test_there_is_room_again_when_an_order_begins(self):
        self.assertEqual(last(HALF, HALF, HALF, HALF, begins(1, 1, 1), HALF), [0])
        self.assertEqual(last(HALF, HALF, HALF, HALF, begins(10001, 1, 1), HALF), [-5])


if __name__ == "__main__":
    unittest.main()
