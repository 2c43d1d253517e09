import unittest

from lines import NEW, cut_text, form_behind, run, told

STUCK = "a, ~a ; a ; 0-1 2-3"
HUGE = 10 ** 18
THREE = "~a|~b, a*b, c, ~c ; a*b, c ; 0-6 1-7 2-8 3-9 4-11 5-10"


class Steps(unittest.TestCase):
    def goes(self, text, choices, answer, form):
        found = run(("set", text), ("steps", choices), ("form",))
        self.assertEqual([answer, form], [found[1], told(found[2])])

    def refuses(self, text, choices):
        found = run(("set", text), ("form",), ("steps", choices), ("form",), ("count",))
        self.assertEqual([-2], found[2])
        self.assertEqual(found[1], found[3])
        self.assertEqual(run(("set", text), ("count",))[1], found[4])

    def test_a_new_object(self):
        self.assertEqual([[1, 0]], run(("steps", [0])))
        self.assertEqual("a, ~a ;  ; 0-1", form_behind(("steps", [0])))

    def test_no_choices(self):
        self.goes(NEW, [], [0, 1], NEW)
        self.goes(";;", [], [0, 0], " ;  ; ")

    def test_in_order(self):
        self.goes(THREE, [0], [1, 3], "~a|~b, a*b, c, ~c ; a, b, c ; 0-6 1-8 2-7 3-9 4-11 5-10")
        self.goes(THREE, [0, 1], [2, 2], "~a|~b, a*b, c, ~c ; a, c ; 0-6 1-3 2-7 4-9 5-8")
        self.goes(THREE, [0, 1, 0], [3, 1], "~a|~b, a*b, c, ~c ; c ; 0-2 1-3 4-7 5-6")
        self.goes(THREE, [1, 0], [2, 2], "~a|~b, a*b, c, ~c ; a, b ; 0-6 1-8 2-7 3-9 4-5")
        self.goes(THREE, [0, 1, 0, 0], [4, 0], "~a|~b, a*b, c, ~c ;  ; 0-2 1-3 4-5")

    def test_modulo_the_cuts_that_there_are_then(self):
        # 5 modulo 2 is 1, 5 modulo 1 is 0, 5 modulo 2 is 1.
        self.goes(THREE, [5], [1, 1], "~a|~b, a*b, c, ~c ; a*b ; 0-6 1-7 2-8 3-9 4-5")
        self.goes(THREE, [5, 5, 5], [3, 1], "~a|~b, a*b, c, ~c ; a ; 0-6 1-3 2-7 4-5")
        self.goes(THREE, [2, 3], [2, 2], "~a|~b, a*b, c, ~c ; b, c ; 0-2 1-6 3-7 4-9 5-8")

    def test_huge_choices(self):
        self.goes(NEW, [HUGE], [1, 0], "a, ~a ;  ; 0-1")
        self.goes(THREE, [HUGE - 1], [1, 1], "~a|~b, a*b, c, ~c ; a*b ; 0-6 1-7 2-8 3-9 4-5")
        self.goes(THREE, [HUGE, HUGE], [2, 2], "~a|~b, a*b, c, ~c ; a, c ; 0-6 1-3 2-7 4-9 5-8")

    def test_no_cuts(self):
        self.goes("a,~a;;0-1", [0, 1, HUGE], [0, 0], "a, ~a ;  ; 0-1")
        self.goes(NEW, [0, 0, 0], [1, 0], "a, ~a ;  ; 0-1")

    def test_stuck_cuts_are_passed_over(self):
        self.goes(STUCK, [0, 7, HUGE], [0, 1], STUCK)
        self.goes("a,~a;a,a;0-5 1-4 2-3", [0, 2, 1, 0], [1, 1], "a, ~a ; a ; 0-1 2-3")
        self.goes(cut_text("a*b", 2), [0, 0, 1, 0], [1, 2], " ; a, b ; 0-1 2-3")

    def test_a_number_below_zero(self):
        for choices in ([-1], [-HUGE], [0, -1], [-1, 0], [0, 0, 0, -1], [0] * 199 + [-1]):
            self.refuses(NEW, choices)
            self.refuses(THREE, choices)
            self.refuses(STUCK, choices)
            self.refuses(";;", choices)

    def test_two_hundred_choices(self):
        text = cut_text("(" + "*".join(["a"] * 30) + ")|(" + "*".join(["b"] * 30) + ")", 60)
        # The first step leaves two cuts, which are taken apart one behind the other; then all are stuck.
        choices = [0] + list(range(29)) + list(range(30, 59)) + [HUGE] * 141
        found = run(("set", text), ("steps", choices), ("steps", choices), ("count",))
        self.assertEqual([[59, 60], [0, 60], [60]], found[1:])

    def test_the_order_makes_no_difference_to_the_end(self):
        text = "~a|(~b*~c), a*(b|c) ; a*(b|c), b ; 0-6 1-7 2-8 3-9 4-10 5-11 12-13"
        for choice in range(1, 11):
            choices = [k * choice % 11 for k in range(100)]
            self.goes(text, choices, [5, 1], "~a|(~b*~c), a*(b|c) ; b ; 0-3 1-4 2-5 6-7")

    def test_as_single_steps_do(self):
        found = run(("set", THREE), ("steps", [0, 1, 0]), ("form",))
        alone = run(("set", THREE), ("step", 0), ("step", 1), ("step", 0), ("form",))
        self.assertEqual(found[-1], alone[-1])


if __name__ == "__main__":
    unittest.main()
