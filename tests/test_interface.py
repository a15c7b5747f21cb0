"""Promise 8, and what the interface says of all calls."""

import contextlib
import io
import unittest

from mergebases.history import answers
from tests.plain import HIGHEST, Case, adds, ask, ask_of, flat, ladder

HISTORY = ladder(3) + [[]]
# Neither 6 nor 8 comes from 7: mark 2 goes to neither unforced, and pruning forgets the two.
MARKS = [("mark", 2, 7, 0), ("mark", 63, 3, 0)]
QUESTIONS = [("parents", 7), ("comes_from", 7, 0), ("comes_from", 0, 7), ("steps", 7, 0), ("best", [6, 7]),
             ("best", [7, 8]), ("heads", [0, 7, 6, 8, 7]), ("walk", [7, 8, 7], [3]), ("walk", [6], []),
             ("walk", [3], [7]), ("between", 7, 1), ("between", 1, 7), ("halve", [7, 6], [0]), ("halve", [0], [7]),
             ("marked", 2), ("marked", 63)]
REFUSED = [("add", [9]), ("add", [0, 0]), ("add", list(range(9))), ("add", [HIGHEST]), ("parents", 9),
           ("comes_from", 9, 0), ("comes_from", 0, HIGHEST), ("steps", 9, 0), ("steps", 0, 7), ("best", []),
           ("best", [9]), ("best", [0] * 65), ("heads", []), ("heads", [0, HIGHEST]), ("heads", [0] * 65),
           ("walk", [], []), ("walk", [], [0]), ("walk", [9], [0]), ("walk", [0], [9]), ("walk", [0] * 65, []),
           ("walk", [0], [0] * 65), ("between", 9, 0), ("between", 0, HIGHEST), ("halve", [], []), ("halve", [], [0]),
           ("halve", [9], [0]), ("halve", [0], [9]), ("halve", [0] * 65, []), ("halve", [0], [0] * 65),
           ("mark", 64, 0, 1), ("mark", 2, 9, 1), ("mark", HIGHEST, HIGHEST, 1), ("mark", 2, 6, 0), ("mark", 2, 8, 0),
           ("mark", 63, 0, 0), ("marked", 64), ("marked", HIGHEST), ("marked", 0)]
REFUSED_WITH_2 = [("steps", 0, 7), ("mark", 2, 6, 0), ("mark", 2, 8, 0), ("mark", 63, 0, 0), ("marked", 0)]
BUILT = adds(HISTORY) + MARKS


def everything(size):
    """Questions from whose answers all can be told that a history is, its room and what pruning leaves too."""
    asked = [("parents", commit) for commit in range(size + 1)] + [("marked", mark) for mark in range(64)]
    asked += [("steps", a, b) for a in range(size) for b in range(size)]
    asked += [("best", list(range(size))), ("heads", list(range(size))), ("prune",), ("marked", 2), ("add", [])]
    return asked


def ask_built(questions):
    """The answers to the questions alone, the history having been built and marked first."""
    return ask(BUILT + questions)[len(BUILT):]


class NothingChanges(Case):
    def test_a_refused_call_is_its_number_alone(self):
        self.assertEqual(ask_built(REFUSED), [[-2] if call in REFUSED_WITH_2 else [-1] for call in REFUSED])

    def unchanged_by(self, calls):
        whole = everything(9)
        before = ask_built(whole)
        for call in calls:
            self.assertEqual(ask_built([call] + whole)[1:], before, call)
        self.assertEqual(ask_built(calls + whole)[len(calls):], before)

    def test_by_refused_calls(self):
        self.unchanged_by(REFUSED)

    def test_by_questions(self):
        self.unchanged_by(QUESTIONS)

    def test_by_a_mark_that_is_put_where_it_is(self):
        self.unchanged_by([("mark", 2, 7, 0), ("mark", 2, 7, 1), ("mark", 63, 3, 0)])

    def test_by_refused_calls_between_adds(self):
        plainly = ask([("add", []), ("add", [0]), ("add", [1, 0]), ("heads", [0, 1, 2])])
        mixed = ask([("add", [0]), ("add", []), ("add", [0, 0]), ("add", [0]), ("add", [2]), ("best", [2]),
                     ("add", [1, 0]), ("heads", [0, 1, 2])])
        self.assertEqual([mixed[1], mixed[3], mixed[6], mixed[7]], plainly)

    def test_by_a_refusal_for_room(self):
        full = [[] for number in range(128)]
        calls = [("parents", 127), ("heads", [0, 127]), ("walk", [127], []), ("marked", 0)]
        told = ask_of(full, calls + [("add", [127, 0])] + calls)
        wanted = [[0], [2, 0, 127], [1, 127], [-2]]
        self.assertEqual(told, wanted + [[-2]] + wanted)

    def test_by_pruning_where_there_is_nothing_to_forget(self):
        whole = everything(9)
        keep = [("mark", 3, 6, 0), ("mark", 4, 8, 0)]
        self.assertEqual(ask_built(keep + [("prune",)] + whole)[3:], ask_built(keep + whole)[2:])

    def test_the_same_questions_have_the_same_answers(self):
        self.assertEqual(ask_built(QUESTIONS * 3), ask_built(QUESTIONS) * 3)

    def test_the_same_questions_have_the_same_answers_after_pruning(self):
        # 6 and 8 are forgotten, and 7 is 6.
        asked = [("parents", 6), ("best", [6, 5]), ("walk", [6], [2]), ("halve", [6], []), ("between", 6, 0),
                 ("marked", 2), ("marked", 63), ("prune",), ("mark", 2, 5, 0), ("mark", 2, 7, 1), ("parents", 7)]
        wanted = [[2, 5, 4], [1, 5], [4, 6, 5, 4, 3], [1, 2], [6, 6, 5, 4, 3, 2, 0], [6], [3], [0], [-2], [-1], [-1]]
        self.assertEqual(ask_built([("prune",)] + asked * 3), [[2]] + wanted * 3)

    def test_a_new_commit_changes_nothing_between_old_ones(self):
        told = ask_built(QUESTIONS + [("add", [7, 8, 0])] + QUESTIONS)
        self.assertEqual(told[:len(QUESTIONS)], told[len(QUESTIONS) + 1:])

    def test_marks_change_no_kinship(self):
        kin = [call for call in QUESTIONS if call[0] != "marked"]
        told = ask_built(kin + [("mark", 2, 0, 1), ("mark", 9, 8, 0)] + kin)
        self.assertEqual(told[:len(kin)], told[len(kin) + 2:])


class Form(Case):
    def test_the_list_of_answers(self):
        calls = [0, 0] + [0, 1, 0] + [0, 1, 0] + [0, 2, 2, 1]
        wanted = [1, 0] + [1, 1] + [1, 2] + [1, 3]
        calls += [1, 3] + [2, 3, 0] + [3, 3, 0] + [3, 0, 3]
        wanted += [3, 2, 2, 1] + [1, 1] + [1, 2] + [1, -2]
        calls += [4, 2, 1, 2] + [5, 3, 0, 1, 2] + [4, 0] + [1, HIGHEST]
        wanted += [2, 1, 0] + [3, 2, 1, 2] + [1, -1] + [1, -1]
        calls += [6, 1, 3, 1, 1] + [6, 2, 1, 2, 0] + [6, 0, 1, 0] + [7, 3, 0] + [7, 0, 3]
        wanted += [3, 2, 3, 2] + [4, 3, 2, 1, 0] + [1, -1] + [5, 4, 3, 2, 1, 0] + [1, 0]
        calls += [8, 1, 3, 0] + [8, 1, 1, 1, 3] + [8, 0, 0] + [10, 5] + [9, 5, 2, 0] + [9, 5, 1, 0] + [10, 5] + [10, 64]
        wanted += [2, 1, 1] + [1, 0] + [1, -1] + [1, -2] + [1, 0] + [1, -2] + [1, 2] + [1, -1]
        calls += [9, 64, 0, 1] + [11] + [10, 5] + [1, 1] + [1, 2]
        wanted += [1, -1] + [1, 2] + [1, 1] + [2, 1, 0] + [1, -1]
        self.assertEqual(answers(calls), wanted)

    def test_whole_numbers_in_a_list(self):
        told = answers(flat(BUILT + QUESTIONS + REFUSED + [("prune",)]))
        self.assertIs(type(told), list)
        self.assertEqual({type(number) for number in told}, {int})

    def test_one_call_alone(self):
        self.assertEqual(answers([0, 0]), [1, 0])
        self.assertEqual(answers([1, 0]), [1, -1])
        self.assertEqual(answers([2, 0, 0]), [1, -1])
        self.assertEqual(answers([3, 0, 0]), [1, -1])
        self.assertEqual(answers([4, 0]), [1, -1])
        self.assertEqual(answers([5, 0]), [1, -1])
        self.assertEqual(answers([6, 0, 0]), [1, -1])
        self.assertEqual(answers([7, 0, 0]), [1, -1])
        self.assertEqual(answers([8, 0, 0]), [1, -1])
        self.assertEqual(answers([9, 0, 0, 0]), [1, -1])
        self.assertEqual(answers([10, 0]), [1, -2])
        self.assertEqual(answers([11]), [1, 0])

    def test_a_refused_call_is_read_to_its_end(self):
        self.assertEqual(ask([("add", [0] * 1000), ("best", [1] * 1000), ("heads", [2] * 1000), ("add", [])]),
                         [[-1], [-1], [-1], [0]])
        calls = [("walk", [0] * 1000, [1] * 1000), ("halve", [], [11] * 1000), ("walk", [11] * 1000, []),
                 ("between", 11, 11), ("mark", 64, 11, 11), ("marked", 64), ("add", [])]
        self.assertEqual(ask(calls), [[-1]] * 6 + [[0]])

    def test_400_calls(self):
        calls = [("add", [])] + [("steps", 0, 0)] * 399
        self.assertEqual(ask(calls), [[0]] * 400)

    def test_what_is_handed_in_stays(self):
        calls = flat(BUILT + QUESTIONS + REFUSED + [("prune",)])
        copied = list(calls)
        told = answers(calls)
        self.assertEqual(calls, copied)
        told.append(7)
        self.assertEqual(calls, copied)

    def test_it_is_not_changed_for_a_while_either(self):
        calls = Watched(flat(BUILT + QUESTIONS + REFUSED + [("prune",)]))
        self.assertEqual(answers(calls), answers(list(calls)))

    def test_nothing_is_kept_from_one_time_to_the_next(self):
        calls = flat(BUILT + QUESTIONS + REFUSED + [("prune",)])
        first = answers(calls)
        first_copied = list(first)
        self.assertEqual(answers([1, 0]), [1, -1])
        self.assertEqual(answers([10, 2]), [1, -2])
        self.assertEqual(answers([11]), [1, 0])
        self.assertEqual(answers([0, 0]), [1, 0])
        first.clear()
        self.assertEqual(answers(calls), first_copied)

    def test_nothing_is_printed(self):
        out = io.StringIO()
        with contextlib.redirect_stdout(out), contextlib.redirect_stderr(out):
            answers(flat(BUILT + QUESTIONS + REFUSED + [("prune",)]))
        self.assertEqual(out.getvalue(), "")


def refuse_change(self, *given):
    raise AssertionError("what is handed in was changed")


class Watched(list):
    append = extend = insert = pop = remove = clear = sort = reverse = refuse_change
    __setitem__ = __delitem__ = __iadd__ = __imul__ = refuse_change


if __name__ == "__main__":
    unittest.main()
