import unittest

from tests.plain import CHAIN, CROSS, HIGHEST, Case, ask, ask_of


class Refused(Case):
    """What best and heads refuse alike."""

    def refused(self, history, members):
        calls = [("best", members), ("heads", members)]
        self.assertEqual(ask_of(history, calls), [[-1], [-1]])

    def test_an_empty_set(self):
        self.refused(CROSS, [])

    def test_an_empty_set_of_no_commits(self):
        self.assertEqual(ask([("best", []), ("heads", [])]), [[-1], [-1]])

    def test_no_such_commit(self):
        self.refused(CROSS, [7])
        self.refused(CROSS, [0, 7])
        self.refused(CROSS, [7, 0])
        self.refused(CROSS, [0, HIGHEST, 1])
        self.refused(CROSS, [HIGHEST])

    def test_65(self):
        self.refused(CHAIN, list(range(65)))

    def test_65_of_which_many_are_the_same(self):
        self.refused(CHAIN, [0] * 65)
        self.refused(CHAIN, list(range(64)) + [63])

    def test_1000(self):
        self.refused(CROSS, [0] * 1000)
        self.refused(CROSS, [HIGHEST] * 1000)


class Best(Case):
    def best(self, history, members):
        return ask_of(history, [("best", members)])[0]

    def test_of_one_is_itself(self):
        self.assertEqual(self.best(CROSS, [3]), [1, 3])
        self.assertEqual(self.best(CROSS, [0]), [1, 0])

    def test_of_siblings_is_the_fork(self):
        self.assertEqual(self.best(CROSS, [1, 2]), [1, 0])

    def test_two_that_were_merged_crosswise(self):
        self.assertEqual(self.best(CROSS, [3, 4]), [2, 1, 2])
        self.assertEqual(self.best(CROSS, [5, 4]), [2, 1, 2])

    def test_of_three(self):
        self.assertEqual(self.best(CROSS, [3, 4, 1]), [1, 1])
        self.assertEqual(self.best(CROSS, [1, 4, 2]), [1, 0])

    def test_none(self):
        self.assertEqual(self.best(CROSS, [5, 6]), [0])
        self.assertEqual(self.best(CROSS, [3, 4, 6]), [0])

    def test_a_commit_more_than_once(self):
        self.assertEqual(self.best(CROSS, [3, 3, 3]), [1, 3])
        self.assertEqual(self.best(CROSS, [3, 4, 3, 4]), [2, 1, 2])
        self.assertEqual(self.best(CROSS, [5] * 64), [1, 5])

    def test_one_of_which_the_other_comes(self):
        self.assertEqual(self.best(CROSS, [5, 1]), [1, 1])
        self.assertEqual(self.best(CROSS, [1, 5]), [1, 1])

    def test_rising_whatever_the_order_of_parents(self):
        history = [[], [], [], [2, 0, 1], [1, 2, 0]]
        self.assertEqual(self.best(history, [4, 3]), [3, 0, 1, 2])

    def test_64(self):
        self.assertEqual(self.best(CHAIN, list(range(64))), [1, 0])
        self.assertEqual(self.best(CHAIN, list(range(127, 63, -1))), [1, 64])

    def test_a_high_common_ancestor_can_hide_a_low_one_but_not_another_line(self):
        # 0 and 3 are both common; 3 doesn't come from 0, so both are best.
        history = [[], [], [1], [2], [3, 0], [0, 3]]
        self.assertEqual(self.best(history, [4, 5]), [2, 0, 3])


class Heads(Case):
    def heads(self, history, members):
        return ask_of(history, [("heads", members)])[0]

    def test_of_one_is_itself(self):
        self.assertEqual(self.heads(CROSS, [0]), [1, 0])

    def test_all(self):
        self.assertEqual(self.heads(CROSS, [0, 1, 2, 3, 4, 5, 6]), [3, 4, 5, 6])

    def test_rising_whatever_the_order(self):
        self.assertEqual(self.heads(CROSS, [6, 5, 4]), [3, 4, 5, 6])
        self.assertEqual(self.heads(CROSS, [2, 1]), [2, 1, 2])

    def test_what_is_between_need_not_be_in_the_set(self):
        self.assertEqual(self.heads(CROSS, [5, 0]), [1, 5])
        self.assertEqual(self.heads(CROSS, [0, 4, 6]), [2, 4, 6])

    def test_only_commits_of_the_set(self):
        self.assertEqual(self.heads(CROSS, [1, 0]), [1, 1])

    def test_a_commit_more_than_once_is_no_other(self):
        self.assertEqual(self.heads(CROSS, [3, 3]), [1, 3])
        self.assertEqual(self.heads(CROSS, [4, 0, 3, 4, 0, 3]), [2, 3, 4])
        self.assertEqual(self.heads(CROSS, [0] * 64), [1, 0])

    def test_64(self):
        self.assertEqual(self.heads(CHAIN, list(range(64))), [1, 63])
        apart = [[] for number in range(65)]
        self.assertEqual(self.heads(apart, list(range(64, 0, -1))), [64] + list(range(1, 65)))


if __name__ == "__main__":
    unittest.main()
