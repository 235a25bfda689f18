"""Sheets and layers: points 23 and 24."""

import itertools
import unittest

from boundbook.layers import bottom_face, top_face, turn_layer

AXES = ("vertical", "horizontal", "both")


class TurnLayerTest(unittest.TestCase):
    def test_about_each_axis(self):
        flat = (3, 1, 2, False, False)
        self.assertEqual(turn_layer(flat, "vertical"), (3, 1, 2, True, False))
        self.assertEqual(turn_layer(flat, "horizontal"), (3, 1, 2, False, True))
        self.assertEqual(turn_layer(flat, "both"), (3, 1, 2, True, True))

    def test_a_layer_that_lies_otherwise(self):
        layer = (0, 4, 7, True, False)
        self.assertEqual(turn_layer(layer, "vertical"), (0, 4, 7, False, False))
        self.assertEqual(turn_layer(layer, "horizontal"), (0, 4, 7, True, True))
        self.assertEqual(turn_layer(layer, "both"), (0, 4, 7, False, True))

    def test_twice_about_one_axis_is_nothing(self):
        for axis, mirrored, turned in itertools.product(AXES, (False, True), (False, True)):
            layer = (1, 2, 3, mirrored, turned)
            self.assertEqual(turn_layer(turn_layer(layer, axis), axis), layer)

    def test_both_are_one_after_the_other(self):
        for mirrored, turned in itertools.product((False, True), repeat=2):
            layer = (1, 2, 3, mirrored, turned)
            both = turn_layer(layer, "both")
            self.assertEqual(turn_layer(turn_layer(layer, "vertical"), "horizontal"), both)
            self.assertEqual(turn_layer(turn_layer(layer, "horizontal"), "vertical"), both)

    def test_the_answer_is_a_tuple(self):
        layer = turn_layer((0, 0, 0, False, False), "both")
        self.assertIsInstance(layer, tuple)
        self.assertIs(layer[3], True)
        self.assertIs(layer[4], True)


class FacesTest(unittest.TestCase):
    def test_the_upper_face(self):
        self.assertEqual(top_face((5, 1, 0, False, False), 4), (5, "front", 1, 0, False))
        self.assertEqual(top_face((5, 1, 0, True, False), 4), (5, "back", 1, 3, False))
        self.assertEqual(top_face((5, 1, 0, False, True), 4), (5, "back", 1, 3, True))
        self.assertEqual(top_face((5, 1, 0, True, True), 4), (5, "front", 1, 0, True))

    def test_the_lower_face(self):
        self.assertEqual(bottom_face((5, 1, 0, False, False), 4), (5, "back", 1, 3, False))
        self.assertEqual(bottom_face((5, 1, 0, True, False), 4), (5, "front", 1, 0, False))
        self.assertEqual(bottom_face((5, 1, 0, False, True), 4), (5, "front", 1, 0, True))
        self.assertEqual(bottom_face((5, 1, 0, True, True), 4), (5, "back", 1, 3, True))

    def test_each_column(self):
        for columns in range(1, 9):
            for column in range(columns):
                self.assertEqual(top_face((0, 2, column, False, False), columns), (0, "front", 2, column, False))
                self.assertEqual(bottom_face((0, 2, column, False, False), columns),
                                 (0, "back", 2, columns - 1 - column, False))

    def test_the_row_is_the_same_on_both_sides(self):
        for row in range(8):
            self.assertEqual(top_face((0, row, 1, True, False), 2), (0, "back", row, 0, False))
            self.assertEqual(top_face((0, row, 1, False, True), 2), (0, "back", row, 0, True))

    def test_turned_over_like_a_leaf_the_lower_face_is_the_upper_one(self):
        for mirrored, turned in itertools.product((False, True), repeat=2):
            layer = (2, 3, 1, mirrored, turned)
            over = turn_layer(layer, "vertical")
            self.assertEqual(bottom_face(layer, 5), top_face(over, 5))
            self.assertEqual(top_face(layer, 5), bottom_face(over, 5))

    def test_kinds_of_values(self):
        for face in (top_face((0, 0, 0, True, True), 1), bottom_face((0, 0, 0, True, True), 1)):
            self.assertIsInstance(face, tuple)
            self.assertIs(face[4], True)


if __name__ == "__main__":
    unittest.main()
