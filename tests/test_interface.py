"""answers(calls): what is handed in, what is given back, and that nothing else happens."""

import builtins
import contextlib
import inspect
import io
import pathlib
import subprocess
import sys
import unittest
from unittest import mock

from playedagain.recordings import UnknownCall, answers
from tests.helper import (begins, cut, differ, hold, kept, keys, modelled, press, put_by, replies, seek, spoil, sum_at,
                          swap)

CALLS = [begins(2, 4294967295), press(1, 2), hold(30, 2, 1), hold(0, 1, 1), press(), seek(20), cut(9), put_by(),
         cut(10), hold(112, 0, 0), begins(5, 0), press(1, 2, 3, 4, 5, 6, 7, 8, 9, 10, 11, 12), hold(111, 3, 4),
         spoil(40, 1, 2), spoil(2, 0, 1), spoil(120, 0, 1), spoil(0, 0, 5), differ(), swap(), kept(), keys(0, 3),
         keys(9, 1), hold(100, 1, 3), spoil(60, 0, 0), kept(), sum_at(70), sum_at(4294967295), put_by(), differ()]

TOP = pathlib.Path(__file__).resolve().parent.parent


def flat(calls):
    return [number for call in calls for number in call]


class Watched(list):
    """A list that refuses to be changed."""

    def refuse(self, *ignored, **also_ignored):
        raise AssertionError("what is handed in was changed")

    append = clear = extend = insert = pop = remove = reverse = sort = refuse
    __setitem__ = __delitem__ = __iadd__ = __imul__ = refuse


class Interface(unittest.TestCase):
    def test_name_and_argument(self):
        self.assertEqual(list(inspect.signature(answers).parameters), ["calls"])
        self.assertEqual(answers(calls=[5]), [1, 0])

    def test_each_answer_has_its_size_ahead(self):
        self.assertEqual(answers([0, 2, 9]), [8, 0, 0, 0, 4, 4, 0, 8, 2])
        self.assertEqual(answers([1, 1, 2]), [6, 1, 0, 1, 0, 8, 2])
        self.assertEqual(answers([2, 3, 1, 2]), [6, 3, 0, 3, 0, 8, 2])
        self.assertEqual(answers([3, 0]), [6, 0, 0, 0, 0, 8, 2])
        self.assertEqual(answers([4, 0]), [2, 0, 0])
        self.assertEqual(answers([5]), [1, 0])
        self.assertEqual(answers([6]), [2, 0, 0])
        self.assertEqual(answers([0, 2, 1, 7])[9:], [14, 0, 0, 0, 0, 4, 4, 0, 8, 2, 0, 0, 0, 8, 2])
        self.assertEqual(answers([8]), [1, 0])
        self.assertEqual(answers([2, 8, 1, 0, 8])[7:], [3, 1, 8, 242116932])
        self.assertEqual(answers([9, 0]), [1, 242116932])
        self.assertEqual(answers([2, 3, 1, 2, 10, 0, 2])[7:], [3, 2, 2, 2])
        self.assertEqual(answers([2, 3, 1, 2, 10, 0, 0])[7:], [1, 0])
        self.assertEqual(answers([1, 1, 2, 11, 0, 0, 0])[7:], [2, 0, 242116932])

    def test_a_refusal_is_its_number_alone(self):
        self.assertEqual(answers([0, 0, 1, 1, 0, 2, 121, 1, 0, 3, 1, 4, 1]), [1, -1, 1, -1, 1, -5, 1, -2, 1, -2])
        self.assertEqual(answers([7, 9, 1, 10, 0, 1, 11, 0, 0, 1, 11, 0, 1, 1]),
                         [1, -6, 1, -2, 1, -2, 1, -2, 1, -1])

    def test_one_call_behind_another(self):
        calls = [press(1), press(1, 1, 2), hold(2, 0, 1), press(), seek(1), put_by()]
        self.assertEqual(flat(calls), [1, 1, 1, 1, 3, 1, 1, 2, 2, 2, 2, 0, 1, 1, 0, 3, 1, 5])
        self.assertEqual(answers(flat(calls)),
                         [6, 1, 1, 0, 0, 8, 2, 1, -1, 1, -1, 1, -1, 6, 1, 1, 0, 0, 8, 2, 1, 1])

    def test_all_twelve_sorts_of_call(self):
        self.assertEqual({call[0] for call in CALLS}, set(range(12)))
        self.assertLessEqual(len(CALLS), 40)
        self.assertEqual(replies(*CALLS), modelled(*CALLS))

    def test_numbers_of_a_call_in_their_order(self):
        self.assertEqual(spoil(1, 2, 3), [11, 1, 2, 3])
        self.assertEqual(answers([0, 3, 1] + hold(2, 0, 0, 0) + [11, 1, 2, 3, 10, 1, 9])[-5:], [4, 1, 0, 0, 3])

    def test_forty_calls(self):
        self.assertEqual(answers([5] * 40), [1, 0] * 40)

    def test_whole_numbers_in_a_list(self):
        found = answers(flat(CALLS))
        self.assertIs(type(found), list)
        self.assertEqual({type(number) for number in found}, {int})

    def test_a_call_that_there_is_not(self):
        for number in (12, 4294967295):
            with self.assertRaises(UnknownCall):
                answers([number])


class NothingElse(unittest.TestCase):
    def test_what_is_handed_in_is_not_changed(self):
        calls = flat(CALLS)
        copy = list(calls)
        answers(calls)
        self.assertEqual(calls, copy)

    def test_what_is_handed_in_is_not_changed_for_a_while(self):
        self.assertEqual(answers(Watched(flat(CALLS))), answers(flat(CALLS)))

    def test_what_is_given_back_is_new(self):
        first = answers(flat(CALLS))
        copy = list(first)
        first.clear()
        self.assertEqual(answers(flat(CALLS)), copy)

    def test_nothing_is_kept_from_one_time_to_the_next(self):
        asked = flat([seek(0), cut(0), kept(), differ(), swap(), kept(), seek(0), put_by()])
        fresh = answers(asked)
        for call in CALLS:
            answers(call)
        answers(flat(CALLS))
        self.assertEqual(answers(asked), fresh)
        self.assertEqual(answers(hold(120, 1)), answers(hold(120, 1)))

    def test_prints_reads_and_imports_nothing(self):
        refused = AssertionError("something was done that isn't told")
        with contextlib.redirect_stdout(io.StringIO()) as out, contextlib.redirect_stderr(io.StringIO()) as err:
            with mock.patch.object(builtins, "open", side_effect=refused), \
                    mock.patch.object(builtins, "__import__", side_effect=refused), \
                    mock.patch.object(builtins, "input", side_effect=refused), \
                    mock.patch.object(sys, "stdin", None):
                answers(flat(CALLS))
        self.assertEqual((out.getvalue(), err.getvalue()), ("", ""))

    def test_no_module_from_outside_is_imported(self):
        script = "import sys; ahead = set(sys.modules); import playedagain.recordings; " \
                 "print(sorted(name for name in set(sys.modules) - ahead if name.split('.')[0] != 'playedagain'))"
        done = subprocess.run([sys.executable, "-c", script], capture_output=True, text=True, check=True, cwd=TOP)
        self.assertEqual((done.stdout, done.stderr), ("[]\n", ""))


if __name__ == "__main__":
    unittest.main()
