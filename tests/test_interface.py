"""How calls are handed in and answers given back."""

import contextlib
import inspect
import io
import unittest

from numberskept import desk
from tests.lines import BEGIN, COUNTS, SHOW, begun, ended, hold, leads, let, of, raw_round, raw_would, told_round
from tests.lines import told_would, was

LINE = (told_round([1, 2], [3, 4, 5]) + SHOW + of(4) + told_round([1, 2, 3], [4]) + leads(2) + raw_round([1])
        + was(1, 4) + was(9, 4) + hold(1, 5) + hold(2, 31) + hold(1, 4) + told_would([1, 2, 3], [4]) + raw_would([1])
        + told_round([1, 2, 3], [4]) + ended(3) + begun(3) + ended(4) + begun(0) + COUNTS + let(1) + let(1)
        + BEGIN + leads(1) + told_round([4]))
ANSWERS = [11, 1, 2, 1, 2, 1, 2, 2, 3, 3, 4, 5,
           10, 2, 1, 2, 1, 2, 2, 3, 3, 4, 5,
           1, 2,
           10, 2, 2, 1, 3, 1, 2, 3, 2, 1, 4,
           1, 2,
           1, -1,
           1, 2,
           1, -3,
           1, 0,
           1, -1,
           1, 5,
           4, 0, 2, 0, 1,
           1, -1,
           10, 3, 2, 3, 3, 1, 2, 3, 1, 1, 4,
           3, 1, 2, 1,
           2, 1, 3,
           1, -3,
           1, -3,
           4, 3, 4, 1, 1,
           1, 0,
           1, -3,
           1, 0,
           1, -3,
           5, 1, 1, 1, 1, 4]


class Interface(unittest.TestCase):
    def test_one_plain_argument(self):
        self.assertTrue(inspect.isfunction(desk.answers))
        self.assertEqual(str(inspect.signature(desk.answers)), "(calls)")

    def test_of_each_call_how_many_numbers_and_these(self):
        self.assertEqual(desk.answers(list(LINE)), ANSWERS)

    def test_whole_numbers_in_a_list(self):
        given = desk.answers(list(LINE))
        self.assertIs(type(given), list)
        self.assertEqual({type(number) for number in given}, {int})

    def test_what_is_handed_in_is_not_changed(self):
        calls = list(LINE)
        desk.answers(calls)
        self.assertEqual(calls, LINE)

    def test_what_is_handed_in_is_not_changed_for_a_while_either(self):
        self.assertEqual(desk.answers(Unchanging(LINE)), desk.answers(list(LINE)))

    def test_nothing_is_kept_from_one_time_to_the_next(self):
        calls = list(LINE)
        first = desk.answers(calls)
        copy = list(first)
        self.assertEqual(desk.answers(SHOW + leads(1) + was(1, 1) + COUNTS), [1, 0, 1, -3, 1, -3, 4, 0, 1, 0, 0])
        again = desk.answers(calls)
        self.assertEqual(again, copy)
        again.append(7)
        self.assertEqual(first, copy)

    def test_sixty_calls(self):
        calls = told_round([1]) * 30 + of(1) * 30
        given = desk.answers(calls)
        self.assertEqual(given[:6], [5, 1, 1, 1, 1, 1])
        self.assertEqual(given[-60:], [1, 1] * 30)
        self.assertEqual(len(given), 30 * 6 + 30 * 2)

    def test_a_row_as_long_as_may_be(self):
        self.assertEqual(desk.answers(raw_round([3] * 40) + of(3)), [1, -1, 1, 0])
        self.assertEqual(desk.answers(raw_would([10] * 40) + of(3)), [1, -1, 1, 0])

    def test_calls_are_told_by_where_they_stand(self):
        # The numbers behind a call are not calls, whatever calls have these numbers.
        calls = raw_would([10, 1, 11, 0]) + hold(10, 11) + let(1) + ended(10) + begun(11) + COUNTS
        self.assertEqual(desk.answers(calls), [4, 0, 2, 0, 0, 1, -3, 1, -3, 1, -3, 1, -3, 4, 0, 1, 0, 0])

    def test_prints_nothing(self):
        with contextlib.redirect_stdout(io.StringIO()) as out, contextlib.redirect_stderr(io.StringIO()) as err:
            desk.answers(list(LINE))
        self.assertEqual(out.getvalue() + err.getvalue(), "")


class Unchanging(list):
    def refuse(self, *args, **kwargs):
        raise AssertionError("what is handed in was changed")

    append = extend = insert = pop = remove = clear = sort = reverse = refuse
    __setitem__ = __delitem__ = __iadd__ = __imul__ = refuse


if __name__ == "__main__":
    unittest.main()
