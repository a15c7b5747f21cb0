import unittest

from tests.plain import CHAIN, HIGHEST, Case, ask, ask_of

# A short way from 6 to 0 that stands behind a long one, and 7 apart from all.
DETOUR = [[], [0], [1], [2], [3], [0], [4, 5], []]


class ComesFrom(Case):
    def test_itself(self):
        self.assertEqual(ask_of(DETOUR, [("comes_from", 0, 0), ("comes_from", 6, 6)]), [[1], [1]])

    def test_parents_and_theirs(self):
        calls = [("comes_from", 6, b) for b in range(8)]
        self.assertEqual(ask_of(DETOUR, calls), [[1], [1], [1], [1], [1], [1], [1], [0]])

    def test_never_from_a_child(self):
        calls = [("comes_from", 0, b) for b in range(1, 8)]
        self.assertEqual(ask_of(DETOUR, calls), [[0]] * 7)

    def test_not_from_a_sibling(self):
        self.assertEqual(ask_of(DETOUR, [("comes_from", 5, 4), ("comes_from", 4, 5)]), [[0], [0]])

    def test_a_chain_of_128(self):
        self.assertEqual(ask_of(CHAIN, [("comes_from", 127, 0), ("comes_from", 0, 127)]), [[1], [0]])

    def test_by_the_eighth_parent_alone(self):
        history = [[]] + [[] for number in range(7)] + [[0], [7, 6, 5, 4, 3, 2, 1, 8]]
        self.assertEqual(ask_of(history, [("comes_from", 9, 0)]), [[1]])

    def test_no_such_commit(self):
        calls = [("comes_from", 8, 0), ("comes_from", 0, 8), ("comes_from", 8, 8),
                 ("comes_from", HIGHEST, 0), ("comes_from", 0, HIGHEST), ("comes_from", HIGHEST, HIGHEST)]
        self.assertEqual(ask_of(DETOUR, calls), [[-1]] * 6)

    def test_of_no_commits(self):
        self.assertEqual(ask([("comes_from", 0, 0)]), [[-1]])


class Steps(Case):
    def test_to_itself(self):
        self.assertEqual(ask_of(DETOUR, [("steps", 0, 0), ("steps", 6, 6)]), [[0], [0]])

    def test_the_fewest_of_two_ways(self):
        calls = [("steps", 6, b) for b in range(7)]
        self.assertEqual(ask_of(DETOUR, calls), [[2], [4], [3], [2], [1], [1], [0]])

    def test_the_short_way_is_the_first_parent(self):
        history = [[], [0], [1], [2], [0, 3], [3, 4]]
        self.assertEqual(ask_of(history, [("steps", 4, 0), ("steps", 5, 0), ("steps", 5, 1)]), [[1], [2], [3]])

    def test_a_parent_may_also_be_further_up(self):
        self.assertEqual(ask_of([[], [0], [1, 0]], [("steps", 2, 0), ("steps", 2, 1)]), [[1], [1]])

    def test_a_chain_of_128(self):
        self.assertEqual(ask_of(CHAIN, [("steps", 127, 0), ("steps", 127, 1)]), [[127], [126]])

    def test_does_not_come_from(self):
        calls = [("steps", 0, 6), ("steps", 4, 5), ("steps", 5, 4), ("steps", 6, 7), ("steps", 7, 0)]
        self.assertEqual(ask_of(DETOUR, calls), [[-2]] * 5)

    def test_no_such_commit_is_looked_at_first(self):
        calls = [("steps", 8, 0), ("steps", 0, 8), ("steps", 8, 8),
                 ("steps", HIGHEST, 0), ("steps", 0, HIGHEST), ("steps", HIGHEST, HIGHEST)]
        self.assertEqual(ask_of(DETOUR, calls), [[-1]] * 6)

    def test_of_no_commits(self):
        self.assertEqual(ask([("steps", 0, 0)]), [[-1]])


if __name__ == "__main__":
    unittest.main()
