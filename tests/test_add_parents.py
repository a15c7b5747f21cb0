import unittest

from tests.plain import CHAIN, HIGHEST, Case, ask, ask_of


class Add(Case):
    def test_numbers_rise_from_0(self):
        self.assertEqual(ask([("add", []), ("add", [0]), ("add", [0]), ("add", [2, 1])]), [[0], [1], [2], [3]])

    def test_no_parents_again_and_again(self):
        self.assertEqual(ask([("add", []), ("add", []), ("add", [])]), [[0], [1], [2]])

    def test_eight_parents(self):
        history = [[] for number in range(9)]
        self.assertEqual(ask_of(history, [("add", [8, 7, 6, 5, 4, 3, 2, 1])]), [[9]])

    def test_nine_parents(self):
        history = [[] for number in range(9)]
        self.assertEqual(ask_of(history, [("add", [0, 1, 2, 3, 4, 5, 6, 7, 8])]), [[-1]])

    def test_far_too_many_parents(self):
        history = [[] for number in range(10)]
        self.assertEqual(ask_of(history, [("add", [0] * 1000), ("add", list(range(1000)))]), [[-1], [-1]])

    def test_a_parent_twice(self):
        calls = [("add", [0, 0]), ("add", [1, 0, 1]), ("add", [0, 1])]
        self.assertEqual(ask_of([[], []], calls), [[-1], [-1], [2]])

    def test_a_parent_that_there_is_not(self):
        calls = [("add", [2]), ("add", [0, 2]), ("add", [0, 3, 1]), ("add", [HIGHEST]), ("add", [0, HIGHEST])]
        self.assertEqual(ask_of([[], []], calls), [[-1]] * 5)

    def test_the_first_commit_has_no_parent_to_name(self):
        self.assertEqual(ask([("add", [0]), ("add", [HIGHEST]), ("add", [])]), [[-1], [-1], [0]])

    def test_128_commits_and_the_129th(self):
        calls = [("add", []), ("add", [127]), ("parents", 128), ("parents", 127)]
        self.assertEqual(ask_of(CHAIN, calls), [[-2], [-2], [-1], [1, 126]])

    def test_127_commits_leave_room_for_one(self):
        calls = [("add", [126, 0]), ("add", [126, 0]), ("parents", 127)]
        self.assertEqual(ask_of(CHAIN[:127], calls), [[127], [-2], [2, 126, 0]])

    def test_wrong_parents_are_looked_at_before_room(self):
        calls = [("add", [128]), ("add", [0, 0]), ("add", list(range(9))), ("add", [HIGHEST]), ("add", [0])]
        self.assertEqual(ask_of(CHAIN, calls), [[-1], [-1], [-1], [-1], [-2]])

    def test_a_refused_one_takes_no_number(self):
        calls = [("add", []), ("add", [1]), ("add", [0, 0]), ("add", [0]), ("parents", 1), ("parents", 2)]
        self.assertEqual(ask(calls), [[0], [-1], [-1], [1], [1, 0], [-1]])


class Parents(Case):
    def test_none(self):
        self.assertEqual(ask_of([[]], [("parents", 0)]), [[0]])

    def test_the_first_first(self):
        history = [[], [], [], [1, 2, 0], [0, 3, 1]]
        self.assertEqual(ask_of(history, [("parents", 3), ("parents", 4)]), [[3, 1, 2, 0], [3, 0, 3, 1]])

    def test_eight(self):
        history = [[] for number in range(8)] + [[3, 7, 0, 1, 6, 2, 5, 4]]
        self.assertEqual(ask_of(history, [("parents", 8)]), [[8, 3, 7, 0, 1, 6, 2, 5, 4]])

    def test_only_parents_not_their_parents(self):
        self.assertEqual(ask_of([[], [0], [1]], [("parents", 2)]), [[1, 1]])

    def test_no_such_commit(self):
        self.assertEqual(ask([("parents", 0), ("add", []), ("parents", 1), ("parents", HIGHEST), ("parents", 0)]),
                         [[-1], [0], [-1], [-1], [0]])


if __name__ == "__main__":
    unittest.main()
