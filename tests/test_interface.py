"""Promise 8, and what the interface says of all calls."""

import contextlib
import io
import unittest

from mergebases.history import answers
from tests.plain import HIGHEST, ask, ask_of, flat, ladder

HISTORY = ladder(3) + [[]]
QUESTIONS = [("parents", 7), ("comes_from", 7, 0), ("comes_from", 0, 7), ("steps", 7, 0), ("best", [6, 7]),
             ("best", [7, 8]), ("heads", [0, 7, 6, 8, 7])]
REFUSED = [("add", [9]), ("add", [0, 0]), ("add", list(range(9))), ("add", [HIGHEST]), ("parents", 9),
           ("comes_from", 9, 0), ("comes_from", 0, HIGHEST), ("steps", 9, 0), ("steps", 0, 7), ("best", []),
           ("best", [9]), ("best", [0] * 65), ("heads", []), ("heads", [0, HIGHEST]), ("heads", [0] * 65)]


def everything(history):
    size = len(history)
    asked = [("parents", commit) for commit in range(size + 1)]
    asked += [("steps", a, b) for a in range(size) for b in range(size)]
    return asked + [("best", list(range(size))), ("heads", list(range(size)))]


class NothingChanges(unittest.TestCase):
    def test_a_refused_call_is_its_number_alone(self):
        told = ask_of(HISTORY, REFUSED)
        self.assertEqual(told, [[-2] if call == ("steps", 0, 7) else [-1] for call in REFUSED])

    def test_by_refused_calls(self):
        whole = everything(HISTORY)
        before = ask_of(HISTORY, whole)
        for call in REFUSED:
            self.assertEqual(ask_of(HISTORY, [call] + whole)[1:], before, call)
        self.assertEqual(ask_of(HISTORY, REFUSED + [("add", [8, 7])])[-1], [9])

    def test_by_refused_calls_between_adds(self):
        plainly = ask([("add", []), ("add", [0]), ("add", [1, 0]), ("heads", [0, 1, 2])])
        mixed = ask([("add", [0]), ("add", []), ("add", [0, 0]), ("add", [0]), ("add", [2]), ("best", [2]),
                     ("add", [1, 0]), ("heads", [0, 1, 2])])
        self.assertEqual([mixed[1], mixed[3], mixed[6], mixed[7]], plainly)

    def test_by_a_refusal_for_room(self):
        full = [[] for number in range(128)]
        calls = [("parents", 127), ("heads", [0, 127])]
        told = ask_of(full, calls + [("add", [127, 0])] + calls)
        self.assertEqual(told, [[0], [2, 0, 127], [-2], [0], [2, 0, 127]])

    def test_by_questions(self):
        whole = everything(HISTORY)
        before = ask_of(HISTORY, whole)
        for call in QUESTIONS:
            self.assertEqual(ask_of(HISTORY, [call] + whole)[1:], before, call)
        self.assertEqual(ask_of(HISTORY, QUESTIONS + [("add", [8, 7])])[-1], [9])

    def test_the_same_questions_have_the_same_answers(self):
        told = ask_of(HISTORY, QUESTIONS * 3)
        self.assertEqual(told, ask_of(HISTORY, QUESTIONS) * 3)

    def test_a_new_commit_changes_nothing_between_old_ones(self):
        told = ask_of(HISTORY, QUESTIONS + [("add", [7, 8, 0])] + QUESTIONS)
        self.assertEqual(told[:len(QUESTIONS)], told[len(QUESTIONS) + 1:])


class Form(unittest.TestCase):
    def test_the_list_of_answers(self):
        calls = [0, 0] + [0, 1, 0] + [0, 1, 0] + [0, 2, 2, 1]
        wanted = [1, 0] + [1, 1] + [1, 2] + [1, 3]
        calls += [1, 3] + [2, 3, 0] + [3, 3, 0] + [3, 0, 3]
        wanted += [3, 2, 2, 1] + [1, 1] + [1, 2] + [1, -2]
        calls += [4, 2, 1, 2] + [5, 3, 0, 1, 2] + [4, 0] + [1, HIGHEST]
        wanted += [2, 1, 0] + [3, 2, 1, 2] + [1, -1] + [1, -1]
        self.assertEqual(answers(calls), wanted)

    def test_whole_numbers_in_a_list(self):
        told = answers(flat([("add", list(parents)) for parents in HISTORY] + QUESTIONS + REFUSED))
        self.assertIs(type(told), list)
        self.assertEqual({type(number) for number in told}, {int})

    def test_one_call_alone(self):
        self.assertEqual(answers([0, 0]), [1, 0])
        self.assertEqual(answers([1, 0]), [1, -1])
        self.assertEqual(answers([2, 0, 0]), [1, -1])
        self.assertEqual(answers([3, 0, 0]), [1, -1])
        self.assertEqual(answers([4, 0]), [1, -1])
        self.assertEqual(answers([5, 0]), [1, -1])

    def test_a_refused_call_is_read_to_its_end(self):
        self.assertEqual(ask([("add", [0] * 1000), ("best", [1] * 1000), ("heads", [2] * 1000), ("add", [])]),
                         [[-1], [-1], [-1], [0]])

    def test_400_calls(self):
        calls = [("add", [])] + [("steps", 0, 0)] * 399
        self.assertEqual(ask(calls), [[0]] * 400)

    def test_what_is_handed_in_stays(self):
        calls = flat([("add", list(parents)) for parents in HISTORY] + QUESTIONS + REFUSED)
        copied = list(calls)
        told = answers(calls)
        self.assertEqual(calls, copied)
        told.append(7)
        self.assertEqual(calls, copied)

    def test_it_is_not_changed_for_a_while_either(self):
        calls = Watched(flat([("add", list(parents)) for parents in HISTORY] + QUESTIONS + REFUSED))
        self.assertEqual(answers(calls), answers(list(calls)))

    def test_nothing_is_kept_from_one_time_to_the_next(self):
        calls = flat([("add", list(parents)) for parents in HISTORY] + QUESTIONS + REFUSED)
        first = answers(calls)
        first_copied = list(first)
        self.assertEqual(answers([1, 0]), [1, -1])
        self.assertEqual(answers([0, 0]), [1, 0])
        first.clear()
        self.assertEqual(answers(calls), first_copied)

    def test_nothing_is_printed(self):
        out = io.StringIO()
        with contextlib.redirect_stdout(out), contextlib.redirect_stderr(out):
            answers(flat([("add", list(parents)) for parents in HISTORY] + QUESTIONS + REFUSED))
        self.assertEqual(out.getvalue(), "")


def refuse_change(self, *given):
    raise AssertionError("what is handed in was changed")


class Watched(list):
    append = extend = insert = pop = remove = clear = sort = reverse = refuse_change
    __setitem__ = __delitem__ = __iadd__ = __imul__ = refuse_change


if __name__ == "__main__":
    unittest.main()
