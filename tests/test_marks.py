"""mark and marked, and promise 7."""

import unittest

from tests.plain import CROSS, HIGHEST, Case, Draw, Plain, adds, ask, ask_of, large_histories


class Mark(Case):
    def test_the_mark_points_to_the_commit(self):
        calls = [("mark", 0, 3, 0), ("marked", 0), ("mark", 63, 0, 0), ("marked", 63), ("marked", 0)]
        self.assertEqual(ask_of(CROSS, calls), [[0], [3], [0], [0], [3]])

    def test_at_first_each_goes_anywhere(self):
        calls = [call for mark in range(7) for call in (("mark", mark, mark, 0), ("marked", mark))]
        self.assertEqual(ask_of(CROSS, calls), [told for mark in range(7) for told in ([0], [mark])])

    def test_all_64(self):
        calls = [("mark", mark, mark % 7, 0) for mark in range(64)] + [("marked", mark) for mark in range(64)]
        self.assertEqual(ask_of(CROSS, calls), [[0]] * 64 + [[mark % 7] for mark in range(64)])

    def test_no_such_mark(self):
        calls = [("mark", 64, 0, 0), ("mark", 64, 0, 1), ("mark", HIGHEST, 0, 0), ("mark", 63, 0, 0)]
        self.assertEqual(ask_of(CROSS, calls), [[-1], [-1], [-1], [0]])

    def test_no_such_commit(self):
        calls = [("mark", 0, 7, 0), ("mark", 0, 7, 1), ("mark", 0, HIGHEST, 0), ("marked", 0), ("mark", 0, 6, 0)]
        self.assertEqual(ask_of(CROSS, calls), [[-1], [-1], [-1], [-2], [0]])

    def test_neither(self):
        self.assertEqual(ask_of(CROSS, [("mark", 64, 7, 0), ("mark", HIGHEST, HIGHEST, HIGHEST)]), [[-1], [-1]])

    def test_of_no_commits(self):
        self.assertEqual(ask([("mark", 0, 0, 0), ("mark", 0, 0, 1), ("marked", 0)]), [[-1], [-1], [-2]])

    def test_a_wrong_commit_is_looked_at_before_the_way(self):
        calls = [("mark", 0, 3, 0), ("mark", 0, 7, 0), ("mark", 0, 2, 0), ("mark", 64, 2, 0), ("marked", 0)]
        self.assertEqual(ask_of(CROSS, calls), [[0], [-1], [-2], [-1], [3]])


class Marked(Case):
    def test_none_at_first(self):
        self.assertEqual(ask([("marked", mark) for mark in range(64)]), [[-2]] * 64)
        self.assertEqual(ask_of(CROSS, [("marked", mark) for mark in range(64)]), [[-2]] * 64)

    def test_no_such_mark(self):
        self.assertEqual(ask([("marked", 64), ("marked", HIGHEST), ("marked", 63)]), [[-1], [-1], [-2]])
        self.assertEqual(ask_of(CROSS, [("marked", 64), ("marked", HIGHEST)]), [[-1], [-1]])

    def test_only_that_one_was_moved(self):
        calls = [("mark", 5, 2, 0)] + [("marked", mark) for mark in range(64)]
        self.assertEqual(ask_of(CROSS, calls)[1:], [[2] if mark == 5 else [-2] for mark in range(64)])

    def test_it_stays_where_it_is_when_commits_are_added(self):
        self.assertEqual(ask_of(CROSS, [("mark", 1, 5, 0), ("add", [5]), ("marked", 1)]), [[0], [7], [5]])


class Promise7(Case):
    def test_forward(self):
        calls = [("mark", 0, 0, 0), ("mark", 0, 2, 0), ("mark", 0, 5, 0), ("marked", 0)]
        self.assertEqual(ask_of(CROSS, calls), [[0], [0], [0], [5]])

    def test_to_where_it_is(self):
        self.assertEqual(ask_of(CROSS, [("mark", 0, 3, 0), ("mark", 0, 3, 0), ("marked", 0)]), [[0], [0], [3]])

    def test_not_back(self):
        calls = [("mark", 0, 5, 0), ("mark", 0, 3, 0), ("mark", 0, 0, 0), ("marked", 0)]
        self.assertEqual(ask_of(CROSS, calls), [[0], [-2], [-2], [5]])

    def test_not_aside(self):
        calls = [("mark", 0, 3, 0), ("mark", 0, 4, 0), ("mark", 0, 6, 0), ("marked", 0)]
        self.assertEqual(ask_of(CROSS, calls), [[0], [-2], [-2], [3]])

    def test_not_from_commit_0_to_one_that_is_apart(self):
        self.assertEqual(ask_of(CROSS, [("mark", 0, 0, 0), ("mark", 0, 6, 0), ("marked", 0)]), [[0], [-2], [0]])

    def test_with_any_other_than_0_it_goes_anywhere(self):
        for force in (1, 2, HIGHEST):
            calls = [("mark", 0, 5, force), ("mark", 0, 0, force), ("mark", 0, 6, force), ("mark", 0, 4, force),
                     ("mark", 0, 4, force), ("marked", 0)]
            self.assertEqual(ask_of(CROSS, calls), [[0], [0], [0], [0], [0], [4]])

    def test_from_where_it_was_moved_by_force_it_goes_forward(self):
        calls = [("mark", 0, 5, 0), ("mark", 0, 1, 1), ("mark", 0, 2, 0), ("mark", 0, 4, 0), ("marked", 0)]
        self.assertEqual(ask_of(CROSS, calls), [[0], [0], [-2], [0], [4]])

    def test_marks_do_not_hinder_one_another(self):
        calls = [("mark", 0, 5, 0), ("mark", 1, 0, 0), ("mark", 1, 4, 0), ("marked", 0), ("marked", 1)]
        self.assertEqual(ask_of(CROSS, calls), [[0], [0], [0], [5], [4]])

    def test_drawn_moves(self):
        for history in large_histories():
            plain = Plain(history)
            draw = Draw(7)
            moves = [("mark", draw.below(3), draw.below(len(history)), 0) for turn in range(80)]
            told = ask(adds(history) + [call for move in moves for call in (move, ("marked", move[1]))])
            told = told[len(history):]
            where = {}
            for turn, (name, mark, commit, force) in enumerate(moves):
                forward = mark not in where or plain.comes_from(commit, where[mark])
                self.assertEqual(told[2 * turn], [0] if forward else [-2])
                where[mark] = commit if forward else where[mark]
                self.assertEqual(told[2 * turn + 1], [where[mark]])


if __name__ == "__main__":
    unittest.main()
