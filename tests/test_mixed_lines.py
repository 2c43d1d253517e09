"""Lines of many calls in which all twelve are mixed, with refused ones among them."""

import unittest

from cutnets.nets import answers
from lines import line, run

HUGE = 10 ** 18
# Each call with what it answers; a text stands for how many bytes it has and then they.
WHOLE_LINE = (
    (("draw",), [1]),
    (("walk", 0), [1, 1]),
    (("join", 1, 0, "a, ~a*b, ~b ;; 0-1 2-3"), [2]),
    (("form",), "a, ~a*b, ~b ; a, ~a ; 0-5 1-7 2-3 4-6"),
    (("draw",), [1]),
    (("finish", 2), [-2]),
    (("bend", 0, 1), [-8]),
    (("bend", 0, 3), [-4]),
    (("join", 0, 1, "a, ~a, b, ~b, c ;; 0-1 2-3"), [-3]),
    (("walk", 7), [1, 0]),
    (("walk", 0), [1, 2]),
    (("walk", 8), [-4]),
    (("normal",), "a, ~a*b, ~b ;  ; 0-1 2-3"),
    (("cuts",), [2, 0, 1, 0, 1]),
    (("count",), [2]),
    (("step", 1), [1]),
    (("form",), "a, ~a*b, ~b ; a ; 0-5 1-4 2-3"),
    (("step", 1), [-4]),
    (("steps", [5, -1]), [-2]),
    (("steps", [5, 5]), [1, 0]),
    (("finish", 1), [0, 0]),
    (("form",), "a, ~a*b, ~b ;  ; 0-1 2-3"),
    (("set", "~a|~b, a*b ; a*b ; 0-4 1-5 2-6"), [-3]),
    (("draw",), [1]),
    (("set", "~a|~b, a*b ; a*b ; 0-4 1-5 2-6 3-7"), [8]),
    (("draw",), [1]),
    (("bend", 0, 1), [2]),
    (("form",), " ; a*b, ~a|~b ; 0-4 1-5 2-6 3-7"),
    (("draw",), [0]),
    (("normal",), [-9]),
    (("walk", 3), [-9]),
    (("count",), [6]),
    (("finish", 0), [4, 2]),
    (("form",), " ; ~a, ~b ; 0-1 2-3"),
    (("count",), [2]),
    (("step", 0), [-9]),
    (("join", 0, 0, ";;"), [-4]),
    (("join", HUGE, -HUGE, ";"), [-1]),
    (("cuts",), [2, 0, 1, 0, 1]),
    (("set", ";;"), [0]),
    (("draw",), [0]),
    (("normal",), " ;  ; "),
    (("finish", 0), [0, 0]),
    (("join", 0, 0, "a, ~a ;; 0-1"), [-4]),
    (("form",), " ;  ; "),
)


def numbers_of(answer):
    return [len(answer)] + [ord(letter) for letter in answer] if isinstance(answer, str) else answer


class MixedLines(unittest.TestCase):
    def test_the_whole_line(self):
        found = run(*[call for call, answer in WHOLE_LINE])
        self.assertEqual([numbers_of(answer) for call, answer in WHOLE_LINE], found)

    def test_each_beginning_of_it(self):
        calls = [call for call, answer in WHOLE_LINE]
        whole = answers(line(*calls))
        for end in range(1, len(calls)):
            found = answers(line(*calls[:end]))
            self.assertEqual(whole[:len(found)], found)

    def test_without_the_refused_calls(self):
        pairs = [(call, numbers_of(answer)) for call, answer in WHOLE_LINE]
        kept = [(call, answer) for call, answer in pairs if answer[0] >= 0]
        self.assertLess(len(kept), len(pairs))
        self.assertEqual([answer for call, answer in kept], run(*[call for call, answer in kept]))

    def test_refused_calls_between_all_others(self):
        refused = [("set", ";"), ("step", -1), ("steps", [0, -1]), ("finish", -1), ("walk", -1),
                   ("join", 0, 0, "a, ~a ;; 0-2"), ("join", -1, 0, "a, ~a ;; 0-1"), ("bend", 0, -1), ("bend", -1, 0)]
        codes = [[-1], [-4], [-2], [-2], [-4], [-3], [-4], [-4], [-4]]
        for part in (WHOLE_LINE[:24], WHOLE_LINE[24:]):
            calls, wanted = [], []
            for call, answer in part:
                calls += refused + [call]
                wanted += codes + [numbers_of(answer)]
            self.assertLessEqual(len(calls), 240)
            self.assertEqual(wanted, run(*calls))

    def test_every_call_is_in_it(self):
        self.assertEqual(12, len({call[0] for call, answer in WHOLE_LINE}))


if __name__ == "__main__":
    unittest.main()
