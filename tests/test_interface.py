"""What the document's interface says of the whole program."""

import contextlib
import io
import unittest

import twobands.ends
from helper import BEGIN, bursts, decode, encode, flat, some_bytes
from twobands.ends import answers

CALLS = flat([BEGIN, encode(bursts(300)), decode(8, some_bytes(200)), ("encode", -1, []),
              decode(5, [9, 8]), decode(6, some_bytes(100)), BEGIN, decode(7, [1, 2, 3]), encode([])])


class Untouched(list):
    """A list that may be read only."""

    def refuse(self, *whatever):
        raise AssertionError("the list that was handed in is changed")

    __setitem__ = __delitem__ = __iadd__ = __imul__ = refuse
    append = extend = insert = pop = remove = clear = sort = reverse = refuse


class Interface(unittest.TestCase):
    def test_the_form_of_the_answers(self):
        calls = [1, 2, 2, 4, 0, 0, 0, 0, 3, 8, 1, 250, 3, 4, 1, 7, 2, 70000, 0, 2, 0, 0, 3, 7, 0, 1]
        answer = answers(calls)
        self.assertEqual(answer[:5], [1, 0, 3, 2, 250])
        self.assertEqual(answer[6:8], [3, 1])
        self.assertEqual(answer[10:], [1, -2, 1, -2, 1, 0, 1, 0, 1, 0])

    def test_the_list_is_the_same_afterwards(self):
        calls = list(CALLS)
        answers(calls)
        self.assertEqual(calls, CALLS)

    def test_the_list_is_not_changed_for_a_while_either(self):
        self.assertEqual(answers(Untouched(CALLS)), answers(CALLS))

    def test_the_same_list_again(self):
        first = answers(CALLS)
        self.assertEqual(answers(CALLS), first)
        self.assertEqual(answers(list(CALLS)), first)

    def test_nothing_is_kept_from_another_list(self):
        first = answers(CALLS)
        answers([1, 2, 3, 6, 32767, -32768, 32767, -32768, 5, 6, 3, 8, 2, 36, 4])
        self.assertEqual(answers(CALLS), first)

    def test_what_is_given_back_is_the_callers_own(self):
        first = answers(CALLS)
        kept = list(first)
        first.clear()
        self.assertEqual(answers(CALLS), kept)

    def test_the_answer_is_a_list_of_whole_numbers(self):
        answer = answers(CALLS)
        self.assertIs(type(answer), list)
        self.assertEqual({type(number) for number in answer}, {int})

    def test_nothing_is_printed(self):
        out, err = io.StringIO(), io.StringIO()
        with contextlib.redirect_stdout(out), contextlib.redirect_stderr(err):
            answers(CALLS)
        self.assertEqual((out.getvalue(), err.getvalue()), ("", ""))

    def test_the_modules_values_stay(self):
        def values():
            return {name: repr(value) for name, value in vars(twobands.ends).items()
                    if isinstance(value, (int, tuple, list, dict)) and not name.startswith("__")}
        before = values()
        answers(CALLS)
        self.assertEqual(values(), before)

    def test_a_band_at_first(self):
        end = twobands.ends.End()
        self.assertEqual((end.low.t, end.high.t), (32, 8))
        self.assertEqual(end.x, [0] * 24)


if __name__ == "__main__":
    unittest.main()
