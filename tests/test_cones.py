"""The few motions and torques of which all others are sums: no part of the interface, but all rests on them."""

import unittest

from planetbox.cones import generators
from planetbox.states import let_motions
from tests.load_support import BENT, LoadTest, corners_of, drifts_of, set_cases
from tests.support import dot


class ConesTest(LoadTest):
    def test_right_and_no_more_than_are_needed(self):
        cases = set_cases() + [(rig, ()) for rig, _, _ in BENT]
        for rig, engaged in cases:
            courses, drifts = let_motions(rig, engaged)
            for course in courses:
                self.is_a_course(rig, engaged, course)
            for drift in drifts:
                self.is_a_drift(rig, engaged, drift)
            self.assertEqual(bool(courses), bool(corners_of(rig, engaged)))
            self.assertLessEqual(len(courses), len(corners_of(rig, engaged)))
            self.assertLessEqual(len(drifts), len(drifts_of(rig, engaged)))

    def test_a_cube(self):
        # All (x, y, z, t) whose first three are from -t to t, by six more columns that are not negative.
        rows = []
        for at in range(3):
            for sign in (1, -1):
                row = [0] * 10
                row[at], row[3], row[4 + len(rows)] = sign, 1, -1
                rows.append(row)
        found = generators(rows, 10, [4, 5, 6, 7, 8, 9])
        corners = sorted(tuple(row[:4]) for row in found)
        signs = (-1, 1)
        self.assertEqual(corners, sorted((x, y, z, 1) for x in signs for y in signs for z in signs))
        for row in found:
            self.assertTrue(all(dot(row, other) == 0 for other in rows))

    def test_lines(self):
        self.assertEqual(sorted(generators([], 2, [])), [[-1, 0], [0, -1], [0, 1], [1, 0]])
        self.assertEqual(sorted(generators([], 2, [1])), [[-1, 0], [0, 1], [1, 0]])
        self.assertEqual(sorted(generators([], 2, [1, 0])), [[0, 1], [1, 0]])
        self.assertEqual(generators([[1, 0], [0, 1]], 2, [0]), [])
        self.assertEqual(generators([[1, 1]], 2, [0, 1]), [])
        self.assertEqual(generators([[2, -3]], 2, [0, 1]), [[3, 2]])


if __name__ == "__main__":
    unittest.main()
