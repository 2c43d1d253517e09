import contextlib
import io
import sys
import unittest

from cutnets.nets import answers
from lines import NEW, cut_text, line, row_of_cuts, run

CALLS = (("form",), ("cuts",), ("count",), ("set", "a|b, ~a*~b ; a*b ; 0-6 1-7 2-4 3-5"), ("steps", [0, 1]),
         ("step", 5), ("set", "no text"), ("steps", [-1]), ("steps", []), ("step", 0), ("form",), ("cuts",), ("count",),
         ("walk", 0), ("walk", -1), ("normal",), ("draw",), ("join", 0, 0, "~a*~b, c, a|b, ~c ;; 0-2 1-3"),
         ("finish", 3),
         ("join", 0, 0, "~a*~b, c, a|b, ~c ;; 0-3 1-4 2-5"), ("join", 0, 1, "~a*~b, a, b ;; 0-2 1-3"), ("bend", 0, 0),
         ("bend", 1, 9), ("draw",), ("bend", 0, 2), ("form",), ("draw",), ("normal",), ("finish", 1), ("finish", 0),
         ("form",))


# 40 atoms, nested 40 deep, with all that is of two formulas standing first.
DEEP = "(" * 38 + "a*a" + ")|a)*a" * 19


class Guarded(list):
    """A list that can't be changed, not for a while either."""

    def refuse(self, *given, **named):
        raise RuntimeError("what was handed in is changed")

    append = extend = insert = pop = remove = clear = sort = reverse = refuse
    __setitem__ = __delitem__ = __iadd__ = __imul__ = refuse


class Interface(unittest.TestCase):
    def test_how_calls_and_answers_stand(self):
        self.assertEqual([3, 1, 0, 1], answers([2]))
        self.assertEqual([1, 1], answers([3]))
        self.assertEqual([1, 0], answers([4, 0]))
        self.assertEqual([1, -4], answers([4, 1]))
        self.assertEqual([2, 1, 0], answers([5, 2, 0, 0]))
        self.assertEqual([2, 0, 1], answers([5, 0]))
        self.assertEqual([1, -2], answers([5, 1, -1]))
        self.assertEqual([1, 0], answers([0, 2, 59, 59]))
        self.assertEqual([1, -1], answers([0, 0]))
        self.assertEqual([20, 19] + [ord(letter) for letter in NEW], answers([1]))
        self.assertEqual([2, 1, 0], answers([6, 0]))
        self.assertEqual([2, 1, 0], answers([6, 1]))
        self.assertEqual([1, -2], answers([6, 2]))
        self.assertEqual([15, 14] + [ord(letter) for letter in "a, ~a ;  ; 0-1"], answers([7]))
        self.assertEqual([2, 1, 1], answers([8, 0]))
        self.assertEqual([2, 1, 0], answers([8, 2]))
        self.assertEqual([1, -4], answers([8, 4]))
        self.assertEqual([1, 1], answers([9]))
        self.assertEqual([1, 2], answers([11, 0, 1]))
        self.assertEqual([1, -8], answers([11, 1, 1]))

    def test_i_and_j_stand_ahead_of_the_text(self):
        text = [ord(letter) for letter in "b,~b,a,~a;;0-1 2-3"]
        self.assertEqual([1, 2], answers([10, 1, 2, len(text)] + text))
        self.assertEqual([1, -8], answers([10, 1, 3, len(text)] + text))
        self.assertEqual([1, -4], answers([10, 2, 1, len(text)] + text))
        self.assertEqual([1, -1, 1, 1], answers([10, 0, 0, 0, 3]))

    def test_one_behind_another(self):
        self.assertEqual([1, 1, 1, -1, 1, 1, 2, 1, 0, 1, 0, 1, 0], answers([3, 0, 1, 59, 3, 5, 1, 3, 2, 3]))

    def test_a_refused_call_is_passed_whole(self):
        self.assertEqual([1, -1, 1, 1], answers([0, 5, 3, 3, 3, 3, 3, 3]))
        self.assertEqual([1, -2, 1, 1], answers([5, 4, -1, 3, 3, 3, 3]))
        self.assertEqual([1, -4, 1, 1], answers([4, 3, 3]))
        self.assertEqual([1, -2, 1, 1], answers([6, 3, 3]))
        self.assertEqual([1, -4, 1, 1], answers([8, 9, 3]))
        self.assertEqual([1, -1, 1, 1], answers([10, 3, 3, 4, 3, 3, 3, 3, 3]))
        self.assertEqual([1, -4, 1, 1], answers([10, 3, 3, 2, 59, 59, 3]))
        self.assertEqual([1, -4, 1, 1], answers([11, 3, 3, 3]))

    def test_whole_numbers_alone_are_given_back(self):
        found = answers(line(*CALLS))
        self.assertIs(list, type(found))
        self.assertEqual({int}, {type(number) for number in found})

    def test_what_is_handed_in_is_not_changed(self):
        calls = line(*CALLS)
        before = list(calls)
        first = answers(calls)
        self.assertEqual(before, calls)
        self.assertEqual(first, answers(calls))
        self.assertEqual(first, answers(Guarded(calls)))

    def test_what_is_given_back_is_new_each_time(self):
        calls = line(*CALLS)
        first = answers(calls)
        kept = list(first)
        first.clear()
        self.assertEqual(kept, answers(calls))

    def test_nothing_is_kept_from_one_time_to_the_next(self):
        run(("set", "b, ~b;;0-1"))
        run(("step", 0))
        run(("finish", 0), ("join", 0, 1, "a, ~a ;; 0-1"), ("bend", 0, 1))
        self.assertEqual([[1, 0, 1], [1]], run(("cuts",), ("count",)))

    def test_two_hundred_and_forty_calls(self):
        self.assertEqual([[0]] + [[-4]] * 238 + [[0]], run(*[("step", 0)] * 239, ("count",)))
        self.assertEqual([[1, 0, 1]] * 240, run(*[("cuts",)] * 240))

    def test_the_longest_rows(self):
        text = "a" + " " * 1999 + ",~a" + " " * 1990 + ";;0-1"
        self.assertEqual([[2]] * 4, run(*[("set", text)] * 4))
        self.assertEqual([[-1]] * 3, run(*[("set", [255] * 4000)] * 3))
        self.assertEqual([[1, 0]] + [[0, 0]] * 70, run(*[("steps", [10 ** 18] * 200)] * 71))
        self.assertEqual([[2], [3], [4], [1]], run(*[("join", 1, 0, text)] * 3, ("draw",)))

    def test_it_needs_no_deep_recursion(self):
        depth = 0
        frame = sys._getframe()
        while frame is not None:
            depth += 1
            frame = frame.f_back
        before = sys.getrecursionlimit()
        calls = line(("set", "(" * 100 + "a*a" + ")" * 100 + ";;"),
                     ("set", cut_text("*".join(["a"] * 40), 40)), ("form",), ("steps", list(range(200))),
                     ("set", "~" * 100 + "a, ~a;;0-1"), ("form",), ("draw",), ("set", cut_text(DEEP, 40)), ("form",),
                     ("draw",), ("walk", 79), ("finish", 0), ("normal",), ("set", row_of_cuts(20, 20)),
                     ("join", 0, 1, row_of_cuts(20, 20)), ("draw",), ("walk", 0), ("normal",), ("bend", 3, 0),
                     ("finish", 1), ("form",))
        wanted = answers(calls)
        self.assertEqual([80], run(("set", cut_text(DEEP, 40)))[0])
        sys.setrecursionlimit(depth + 30)
        try:
            self.assertEqual(wanted, answers(calls))
        finally:
            sys.setrecursionlimit(before)

    def test_it_prints_nothing(self):
        shown = io.StringIO()
        with contextlib.redirect_stdout(shown), contextlib.redirect_stderr(shown):
            answers(line(*CALLS))
        self.assertEqual("", shown.getvalue())


if __name__ == "__main__":
    unittest.main()
