"""Systems of constraints: point 14."""

import itertools
import random
import unittest

from boundbook.constraints import contradiction, least_positions


def plain_least(count, constraints):
    """The least solution by trying all positions up to the sum of the distances above 0."""
    greatest = sum(distance for _, _, distance in constraints if distance > 0)
    best = None
    for rest in itertools.product(range(greatest + 1), repeat=count - 1):
        positions = (0,) + rest
        if all(positions[b] >= positions[a] + d for a, b, d in constraints):
            best = positions if best is None else tuple(map(min, best, positions))
    return None if best is None else list(best)


def plain_contradiction(count, constraints):
    """The contradiction, by leaving out one constraint after the other as point 14 says."""
    if plain_least(count, constraints) is not None:
        return None
    left = dict(enumerate(constraints))
    for number in range(len(constraints)):
        others = {key: left[key] for key in left if key != number}
        if plain_least(count, list(others.values())) is None:
            left = others
    return sorted(left)


class LeastPositionsTest(unittest.TestCase):
    def test_a_chain(self):
        self.assertEqual(least_positions(3, [(0, 1, 2), (1, 2, 3)]), [0, 2, 5])

    def test_the_order_of_the_constraints_does_not_matter(self):
        constraints = [(0, 1, 2), (1, 2, 3), (2, 3, 4), (0, 3, 5), (3, 1, -9)]
        for order in itertools.permutations(constraints):
            self.assertEqual(least_positions(4, list(order)), [0, 2, 5, 9])

    def test_the_greatest_of_several_bounds(self):
        self.assertEqual(least_positions(2, [(0, 1, 2), (0, 1, 5), (0, 1, 3)]), [0, 5])
        self.assertEqual(least_positions(3, [(0, 1, 1), (1, 2, 1), (0, 2, 7)]), [0, 1, 7])

    def test_positions_without_a_constraint(self):
        self.assertEqual(least_positions(1, []), [0])
        self.assertEqual(least_positions(4, []), [0, 0, 0, 0])
        self.assertEqual(least_positions(4, [(0, 2, 3)]), [0, 0, 3, 0])

    def test_from_a_position_other_than_0(self):
        self.assertEqual(least_positions(3, [(1, 2, 4)]), [0, 0, 4])

    def test_distances_below_0(self):
        self.assertEqual(least_positions(2, [(0, 1, -3)]), [0, 0])
        self.assertEqual(least_positions(3, [(0, 2, 5), (2, 1, -3)]), [0, 2, 5])
        self.assertEqual(least_positions(2, [(0, 1, 4), (1, 0, -4)]), [0, 4])
        self.assertIsNone(least_positions(2, [(0, 1, 4), (1, 0, -3)]))

    def test_a_distance_of_0(self):
        self.assertEqual(least_positions(3, [(0, 1, 2), (1, 2, 0), (2, 1, 0)]), [0, 2, 2])

    def test_position_0_stays_at_0(self):
        self.assertIsNone(least_positions(2, [(1, 0, 1)]))
        self.assertEqual(least_positions(2, [(1, 0, 0)]), [0, 0])
        self.assertIsNone(least_positions(3, [(1, 2, 3), (2, 0, -2)]))
        self.assertEqual(least_positions(3, [(1, 2, 3), (2, 0, -3)]), [0, 0, 3])

    def test_a_constraint_of_a_position_to_itself(self):
        for position in (0, 1):
            self.assertEqual(least_positions(2, [(position, position, 0)]), [0, 0])
            self.assertEqual(least_positions(2, [(position, position, -2)]), [0, 0])
            self.assertIsNone(least_positions(2, [(position, position, 1)]))
        self.assertIsNone(least_positions(1, [(0, 0, 1)]))

    def test_a_circle_that_position_0_has_no_part_in(self):
        self.assertIsNone(least_positions(4, [(1, 2, 3), (2, 3, -1), (3, 1, -1)]))
        self.assertEqual(least_positions(4, [(1, 2, 3), (2, 3, -1), (3, 1, -2)]), [0, 0, 3, 2])

    def test_as_many_steps_as_there_are_positions(self):
        backwards = [(k, k + 1, 1) for k in reversed(range(9))]
        self.assertEqual(least_positions(10, backwards), list(range(10)))
        self.assertIsNone(least_positions(10, backwards + [(9, 0, -8)]))
        self.assertEqual(least_positions(10, backwards + [(9, 0, -9)]), list(range(10)))

    def test_against_trying_all_positions(self):
        rng = random.Random(14)
        answers = []
        for _ in range(400):
            count = rng.randint(1, 3)
            constraints = [(rng.randrange(count), rng.randrange(count), rng.randint(-4, 4))
                           for _ in range(rng.randint(0, 5))]
            answers.append(least_positions(count, constraints))
            self.assertEqual(answers[-1], plain_least(count, constraints), (count, constraints))
        self.assertGreater(answers.count(None), 50)
        self.assertGreater(len(answers) - answers.count(None), 50)


class ContradictionTest(unittest.TestCase):
    def test_none_if_there_is_a_solution(self):
        self.assertIsNone(contradiction(1, []))
        self.assertIsNone(contradiction(3, [(0, 1, 2), (1, 2, 3), (2, 0, -5)]))

    def test_what_is_left(self):
        self.assertEqual(contradiction(2, [(0, 1, 4), (1, 0, -3)]), [0, 1])
        self.assertEqual(contradiction(3, [(0, 2, 9), (0, 1, 4), (1, 2, 1), (1, 0, -3)]), [1, 3])

    def test_one_constraint_alone(self):
        self.assertEqual(contradiction(2, [(1, 0, 1)]), [0])
        self.assertEqual(contradiction(2, [(0, 1, 1), (1, 1, 1), (0, 1, 2)]), [1])
        self.assertEqual(contradiction(1, [(0, 0, 5)]), [0])

    def test_of_several_the_last_ones_are_left(self):
        self.assertEqual(contradiction(2, [(0, 0, 1), (1, 1, 1)]), [1])
        self.assertEqual(contradiction(2, [(1, 0, 1), (1, 0, 1), (1, 0, 1)]), [2])
        self.assertEqual(contradiction(2, [(0, 1, 4), (0, 1, 5), (1, 0, -3)]), [1, 2])
        self.assertEqual(contradiction(2, [(0, 1, 5), (1, 0, -3), (0, 1, 4), (1, 0, -2)]), [2, 3])

    def test_what_is_left_has_no_solution_and_lacks_nothing(self):
        rng = random.Random(41)
        for _ in range(200):
            count = rng.randint(1, 6)
            constraints = [(rng.randrange(count), rng.randrange(count), rng.randint(-3, 4))
                           for _ in range(rng.randint(1, 9))]
            left = contradiction(count, constraints)
            if left is None:
                self.assertIsNotNone(least_positions(count, constraints))
                continue
            self.assertIsNone(least_positions(count, [constraints[k] for k in left]))
            for number in left:
                others = [constraints[k] for k in left if k != number]
                self.assertIsNotNone(least_positions(count, others))

    def test_against_leaving_out_by_hand(self):
        rng = random.Random(15)
        found = 0
        for _ in range(250):
            count = rng.randint(1, 3)
            constraints = [(rng.randrange(count), rng.randrange(count), rng.randint(-3, 3))
                           for _ in range(rng.randint(0, 5))]
            expected = plain_contradiction(count, constraints)
            self.assertEqual(contradiction(count, constraints), expected, (count, constraints))
            found += expected is not None
        self.assertGreater(found, 50)


class NothingIsChangedTest(unittest.TestCase):
    def test_arguments_and_answers_are_independent(self):
        constraints = [(0, 1, 4), (1, 0, -3), (0, 1, 2)]
        kept = list(constraints)
        left = contradiction(2, constraints)
        left.append(7)
        self.assertEqual(constraints, kept)
        self.assertEqual(contradiction(2, constraints), [0, 1])
        positions = least_positions(2, kept[:1])
        positions[0] = 9
        self.assertEqual(least_positions(2, kept[:1]), [0, 4])
        self.assertEqual(kept, [(0, 1, 4), (1, 0, -3), (0, 1, 2)])


if __name__ == "__main__":
    unittest.main()
