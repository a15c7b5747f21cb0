import unittest

from tests.plain import CHAIN, CROSS, HIGHEST, Case, ask, ask_of


class Refused(Case):
    """What walk and halve refuse alike."""

    def refused(self, history, first, second):
        calls = [("walk", first, second), ("halve", first, second)]
        self.assertEqual(ask_of(history, calls), [[-1], [-1]], (first, second))

    def taken(self, history, first, second):
        for told in ask_of(history, [("walk", first, second), ("halve", first, second)]):
            self.assertGreaterEqual(told[0], 0, (first, second))

    def test_a_first_set_that_has_none(self):
        self.refused(CROSS, [], [])
        self.refused(CROSS, [], [0])

    def test_two_sets_that_have_none_of_no_commits(self):
        self.assertEqual(ask([("walk", [], []), ("halve", [], [])]), [[-1], [-1]])

    def test_a_second_set_that_has_none_is_no_refusal(self):
        self.taken(CROSS, [0], [])
        self.taken(CHAIN, list(range(64)), [])

    def test_no_such_commit_in_either_set(self):
        for wrong in ([7], [0, 7], [7, 0], [0, HIGHEST, 1], [HIGHEST]):
            self.refused(CROSS, wrong, [])
            self.refused(CROSS, wrong, [0])
            self.refused(CROSS, [0], wrong)
            self.refused(CROSS, wrong, wrong)

    def test_of_no_commits(self):
        calls = [("walk", [0], []), ("halve", [0], []), ("walk", [], [0]), ("halve", [], [0])]
        self.assertEqual(ask(calls), [[-1]] * 4)

    def test_64_in_either_set(self):
        self.taken(CHAIN, list(range(64)), [0])
        self.taken(CHAIN, [127], list(range(64)))
        self.taken(CHAIN, list(range(64, 128)), list(range(64)))

    def test_65_in_either_set(self):
        self.refused(CHAIN, list(range(65)), [0])
        self.refused(CHAIN, list(range(65)), [])
        self.refused(CHAIN, [127], list(range(65)))
        self.refused(CHAIN, list(range(63, 128)), list(range(65)))

    def test_64_and_65_times_the_same(self):
        self.taken(CHAIN, [9] * 64, [3] * 64)
        self.refused(CHAIN, [9] * 65, [3])
        self.refused(CHAIN, [9], [3] * 65)
        self.refused(CHAIN, list(range(64)) + [63], [])

    def test_1000(self):
        self.refused(CROSS, [0] * 1000, [])
        self.refused(CROSS, [0], [0] * 1000)
        self.refused(CROSS, [HIGHEST] * 1000, [HIGHEST] * 1000)


class Walk(Case):
    def walk(self, first, second, history=CROSS):
        return ask_of(history, [("walk", first, second)])[0]

    def test_all_that_the_first_set_comes_from(self):
        self.assertEqual(self.walk([0], []), [1, 0])
        self.assertEqual(self.walk([3], []), [4, 3, 2, 1, 0])
        self.assertEqual(self.walk([6, 5], []), [6, 6, 5, 3, 2, 1, 0])

    def test_less_what_the_second_comes_from(self):
        self.assertEqual(self.walk([5], [4]), [2, 5, 3])
        self.assertEqual(self.walk([4], [5]), [1, 4])
        self.assertEqual(self.walk([5], [1]), [3, 5, 3, 2])
        self.assertEqual(self.walk([5, 4], [0]), [5, 5, 4, 3, 2, 1])

    def test_of_the_second_set_every_one_counts(self):
        self.assertEqual(self.walk([5], [1, 2]), [2, 5, 3])
        self.assertEqual(self.walk([6, 5], [6, 3]), [1, 5])

    def test_of_the_first_set_every_one_counts(self):
        self.assertEqual(self.walk([2, 1], []), [3, 2, 1, 0])
        self.assertEqual(self.walk([1, 6, 2], [0]), [3, 6, 2, 1])

    def test_none(self):
        self.assertEqual(self.walk([0], [5]), [0])
        self.assertEqual(self.walk([3], [3]), [0])
        self.assertEqual(self.walk([5, 4], [4, 5]), [0])

    def test_the_second_apart_from_the_first(self):
        self.assertEqual(self.walk([2], [6]), [2, 2, 0])

    def test_a_commit_more_than_once(self):
        self.assertEqual(self.walk([5, 5, 5], [4, 4]), [2, 5, 3])
        self.assertEqual(self.walk([3] * 64, [1] * 64), [2, 3, 2])

    def test_a_chain_of_128(self):
        self.assertEqual(self.walk([127], [], CHAIN), [128] + list(range(127, -1, -1)))
        self.assertEqual(self.walk([127], [125], CHAIN), [2, 127, 126])

    def test_sets_of_64(self):
        apart = [[] for number in range(128)]
        first = list(range(64))
        self.assertEqual(self.walk(first, list(range(64, 128)), apart), [64] + first[::-1])
        self.assertEqual(self.walk(first, list(range(63)) + [100], apart), [1, 63])


class Between(Case):
    def between(self, a, b, history=CROSS):
        return ask_of(history, [("between", a, b)])[0]

    def test_itself(self):
        self.assertEqual(self.between(0, 0), [1, 0])
        self.assertEqual(self.between(6, 6), [1, 6])

    def test_a_child_and_a_parent(self):
        self.assertEqual(self.between(5, 3), [2, 5, 3])

    def test_all_ways(self):
        self.assertEqual(self.between(5, 0), [5, 5, 3, 2, 1, 0])
        self.assertEqual(self.between(4, 0), [4, 4, 2, 1, 0])

    def test_only_what_comes_from_the_lower(self):
        self.assertEqual(self.between(5, 1), [3, 5, 3, 1])
        self.assertEqual(self.between(4, 2), [2, 4, 2])

    def test_none_where_the_one_does_not_come_from_the_other(self):
        self.assertEqual(self.between(0, 5), [0])
        self.assertEqual(self.between(5, 4), [0])
        self.assertEqual(self.between(5, 6), [0])
        self.assertEqual(self.between(6, 0), [0])

    def test_a_chain_of_128(self):
        self.assertEqual(self.between(127, 0, CHAIN), [128] + list(range(127, -1, -1)))
        self.assertEqual(self.between(100, 98, CHAIN), [3, 100, 99, 98])

    def test_by_the_eighth_parent_alone(self):
        history = [[] for number in range(8)] + [[0], [7, 6, 5, 4, 3, 2, 1, 8]]
        self.assertEqual(self.between(9, 0, history), [3, 9, 8, 0])

    def test_no_such_commit(self):
        calls = [("between", 7, 0), ("between", 0, 7), ("between", 7, 7), ("between", HIGHEST, 0),
                 ("between", 0, HIGHEST), ("between", HIGHEST, HIGHEST)]
        self.assertEqual(ask_of(CROSS, calls), [[-1]] * 6)
        self.assertEqual(ask([("between", 0, 0)]), [[-1]])


class Halve(Case):
    """Each answer is counted by hand."""

    def halve(self, first, second, history=CROSS):
        return ask_of(history, [("halve", first, second)])[0]

    def test_no_candidates(self):
        self.assertEqual(self.halve([0], [5]), [0])
        self.assertEqual(self.halve([3], [3]), [0])
        self.assertEqual(self.halve([5, 4], [4, 5]), [0])

    def test_one_candidate(self):
        self.assertEqual(self.halve([0], []), [1, 0])
        self.assertEqual(self.halve([6], [5]), [1, 6])
        self.assertEqual(self.halve([4], [5]), [1, 4])

    def test_two(self):
        # 3: 1 and 1; 5: 2 and 0.
        self.assertEqual(self.halve([5], [4]), [1, 3])
        # 1 and 2: 1 and 1 each.
        self.assertEqual(self.halve([2, 1], [0]), [1, 1])

    def test_a_chain(self):
        # Of 5 commits: 1 and 4, 2 and 3, 3 and 2, 4 and 1, 5 and 0; of equals the lowest.
        self.assertEqual(self.halve([4], [], CHAIN), [1, 1])
        # Of 6 commits the third.
        self.assertEqual(self.halve([5], [], CHAIN), [1, 2])
        # Of 4 to 9 the third: only candidates are counted.
        self.assertEqual(self.halve([9], [3], CHAIN), [1, 6])
        # Of 128 the 64th, of 127 the 63rd.
        self.assertEqual(self.halve([127], [], CHAIN), [1, 63])
        self.assertEqual(self.halve([127], [0], CHAIN), [1, 63])

    def test_all_apart(self):
        # Each: 1 and 4.
        apart = [[] for number in range(5)]
        self.assertEqual(self.halve([4, 3, 2, 1, 0], [], apart), [1, 0])
        self.assertEqual(self.halve([4, 2], [], apart), [1, 2])

    def test_a_merge(self):
        # 0: 1 and 3; 1 and 2: 2 and 2; 3: 4 and 0.
        self.assertEqual(self.halve([3], []), [1, 1])
        # 1 and 2: 1 and 3; 3: 3 and 1; 5: 4 and 0.
        self.assertEqual(self.halve([5], [0]), [1, 1])
        # 1 and 2: 1 and 2; 3: 3 and 0.
        self.assertEqual(self.halve([3], [0]), [1, 1])

    def test_the_lowest_is_not_the_best(self):
        # 0 is apart; of the chain 1 to 5 the third comes from three of the six.
        history = [[], [], [1], [2], [3], [4]]
        self.assertEqual(self.halve([0, 5], [], history), [1, 3])

    def test_more_inside_than_outside(self):
        # 3 comes from 0 to 3: 4 and 2; 0, 1, 2: 1 and 5; 4: 5 and 1; 5: 6 and 0.
        history = [[], [], [], [2, 1, 0], [3], [4]]
        self.assertEqual(self.halve([5], [], history), [1, 3])

    def test_equals_one_of_which_has_more_inside_and_one_more_outside(self):
        # 2: 1 and 4; 1: 2 and 3; 3: 3 and 2; 0: 1 and 4; 4: 5 and 0.
        history = [[], [0], [], [2, 1], [3]]
        self.assertEqual(ask_of(history, [("halve", [4], [])]), [[1, 1]])
        # The lower of the equals has more inside: 0, 1, 3: 1 and 4; 2: 3 and 2; 4: 2 and 3.
        history = [[], [], [0, 1], [], [3]]
        self.assertEqual(ask_of(history, [("halve", [4, 2], [])]), [[1, 2]])

    def test_a_commit_more_than_once_is_one_candidate(self):
        self.assertEqual(self.halve([5, 5, 5, 5, 3, 3], [], CHAIN), [1, 2])
        self.assertEqual(self.halve([9] * 64, [3] * 64, CHAIN), [1, 6])


if __name__ == "__main__":
    unittest.main()
