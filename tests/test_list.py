import ast
import contextlib
import io
import pathlib
import unittest

import evenrowsdesk
from evenrowsdesk.desk import answers

FULL = [0, 1, 0, 3, 5, 1, 3, 2, 0, 2, 1, 1, 3, 3, 3, 3, 3, 0, 1, 4, 0, 0, 1, 2, 2, 0, 12, 2, 9, 1]
FULL_TOLD = [1, 0, 1, 3, 3, 3, 5, 3, 1, 3, 1, 1, 1, 1, 4, 3, 3, 3, 3, 1, -1]


class Unchanging(list):
    def refuse(self, *args, **kwargs):
        raise AssertionError("what is handed in is changed")

    __setitem__ = __delitem__ = __iadd__ = __imul__ = refuse
    append = extend = insert = pop = remove = clear = sort = reverse = refuse


class TheList(unittest.TestCase):
    def test_empty(self):
        self.assertEqual(answers([]), [])

    def test_one_call(self):
        self.assertEqual(answers([0]), [1, 0])

    def test_several_calls(self):
        self.assertEqual(answers(FULL), FULL_TOLD)

    def test_row_with_no_numbers_is_followed_by_the_next_call(self):
        self.assertEqual(answers([0, 1, 2, 0, 2, 2, 1]), [1, 0, 1, -1, 2, 1, 0])

    def test_refused_row_is_gone_past_whole(self):
        self.assertEqual(answers([0, 1, 4, 2, 0, 0, 3, 0, 0]), [1, 0, 1, -1, 1, 3])

    def test_given_back_are_whole_numbers_in_a_list(self):
        told = answers(FULL)
        self.assertIs(type(told), list)
        self.assertEqual({type(number) for number in told}, {int})

    def test_handed_in_stays_as_it_was(self):
        calls = list(FULL)
        answers(calls)
        self.assertEqual(calls, FULL)

    def test_handed_in_is_not_changed_for_a_while_either(self):
        self.assertEqual(answers(Unchanging(FULL)), FULL_TOLD)

    def test_asking_twice(self):
        calls = list(FULL)
        self.assertEqual(answers(calls), FULL_TOLD)
        self.assertEqual(answers(calls), FULL_TOLD)

    def test_nothing_is_kept_from_another_list(self):
        answers([0, 1, 0, 2, 7, 8, 1, 3, 1, 9])
        self.assertEqual(answers([0, 2, 0, 12, 2, 3, 12]), [1, 0, 2, 1, 0, 2, 1, 0])

    def test_what_is_given_back_is_not_kept(self):
        answers(FULL).clear()
        self.assertEqual(answers(FULL), FULL_TOLD)

    def test_four_hundred_calls(self):
        full_row = [1, 0, 12] + [1000] * 12
        told_row = [2, 0, 12]
        calls = [0] + (full_row + told_row) * 199 + [3, 0, 0]
        told = [1, 0] + ([1, 12] + [13, 12] + [1000] * 12) * 199 + [1, 3]
        # Not assertEqual: its account of how two such long lists differ takes minutes.
        self.assertTrue(answers(calls) == told)

    def test_four_hundred_calls_of_the_longest_kind(self):
        calls = [0] + ([1, 0, 12] + list(range(12))) * 399
        self.assertTrue(answers(calls) == [1, 0] + [1, 12] * 399)


class Quiet(unittest.TestCase):
    def test_prints_nothing(self):
        out, err = io.StringIO(), io.StringIO()
        with contextlib.redirect_stdout(out), contextlib.redirect_stderr(err):
            answers(FULL)
        self.assertEqual((out.getvalue(), err.getvalue()), ("", ""))

    def test_imports_nothing_from_outside_the_package(self):
        folder = pathlib.Path(evenrowsdesk.__file__).parent
        for path in sorted(folder.glob("*.py")):
            for node in ast.walk(ast.parse(path.read_text())):
                self.assertNotIsInstance(node, ast.Import, path.name)
                if isinstance(node, ast.ImportFrom):
                    self.assertEqual((node.module or "").split(".")[0], "evenrowsdesk", path.name)


if __name__ == "__main__":
    unittest.main()
