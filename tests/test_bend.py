import unittest

from lines import NEW, form_behind, known, pairs_text, row_of_cuts, run, told

HUGE = 10 ** 18
# The leaves are 0 ~a, 1 a, 2 b, 3 a, 4 b, 5 ~b, 6 ~a, 7 ~b and 8 y, 9 ~y.
HELD = "~a, a, b, a*b, ~b, ~a|~b ; y ; 0-3 1-6 2-7 4-5 8-9"


class Bent(unittest.TestCase):
    def bends(self, held, i, j, cuts, form):
        found = run(("set", held), ("bend", i, j), ("form",))
        self.assertEqual([[cuts], form], [found[1], told(found[2])])

    def test_a_new_object(self):
        found = run(("bend", 0, 1), ("form",), ("cuts",), ("count",), ("draw",), ("normal",))
        self.assertEqual(" ; a, a ; 0-3 1-2", told(found[1]))
        self.assertEqual([[2], [2, 0, 1, 0, 1], [2], [0], [-9]], [found[0]] + found[2:])

    def test_i_ahead_of_j(self):
        self.bends(HELD, 3, 5, 2, "~a, a, b, ~b ; y, a*b ; 0-6 1-8 2-9 3-7 4-5")

    def test_j_ahead_of_i(self):
        self.bends(HELD, 5, 3, 2, "~a, a, b, ~b ; y, ~a|~b ; 0-8 1-6 2-7 3-9 4-5")

    def test_atoms(self):
        self.bends(HELD, 1, 0, 2, "b, a*b, ~b, ~a|~b ; y, a ; 0-5 1-9 2-3 4-8 6-7")
        self.bends(HELD, 0, 1, 2, "b, a*b, ~b, ~a|~b ; y, ~a ; 0-5 1-8 2-3 4-9 6-7")
        self.bends(HELD, 2, 4, 2, "~a, a, a*b, ~a|~b ; y, b ; 0-2 1-4 3-9 5-8 6-7")
        self.bends(HELD, 4, 2, 2, "~a, a, a*b, ~a|~b ; y, ~b ; 0-2 1-4 3-8 5-9 6-7")

    def test_two_that_are_linked_with_each_other(self):
        self.bends("a, ~a ;; 0-1", 0, 1, 1, " ; a ; 0-1")
        self.bends("a, ~a ;; 0-1", 1, 0, 1, " ; ~a ; 0-1")
        self.bends("a*b, ~a|~b ;; 0-2 1-3", 1, 0, 1, " ; ~a|~b ; 0-2 1-3")
        self.assertEqual([-9], run(("set", "a, ~a ;; 0-1"), ("bend", 0, 1), ("step", 0))[2])

    def test_one_of_several_alike(self):
        text = "a, ~a, a, ~a ;; 0-1 2-3"
        self.bends(text, 0, 3, 1, "~a, a ; a ; 0-2 1-3")
        self.bends(text, 2, 1, 1, "a, ~a ; a ; 0-3 1-2")
        self.bends(text, 2, 3, 1, "a, ~a ; a ; 0-1 2-3")

    def test_again_until_no_conclusion_is_left(self):
        found = run(("set", HELD), ("bend", 3, 5), ("bend", 3, 2), ("bend", 0, 1), ("form",), ("bend", 0, 1),
                    ("finish", 0))
        self.assertEqual([[2], [3], [4], [-4]], found[1:4] + [found[5]])
        # The leaves are 0 y, 1 ~y, 2 a, 3 b, 4 ~a, 5 ~b, 6 ~b, 7 b, 8 ~a, 9 a.
        self.assertEqual(" ; y, a*b, ~b, ~a ; 0-1 2-8 3-6 4-9 5-7", told(found[4]))
        # y is stuck from the beginning, and of each of the two circles one cut is left.
        self.assertEqual([3, 3], found[6])

    def test_what_a_join_does(self):
        # A join is a bend of two structures that stand side by side.
        joined = run(("set", "x, a, ~a, ~x ;; 0-3 1-2"), ("join", 1, 0, "~a, y, ~y, a ;; 0-3 1-2"), ("form",))
        bent = run(("set", "x, a, ~a, ~x, ~a, y, ~y, a ;; 0-3 1-2 4-7 5-6"), ("bend", 1, 4), ("form",))
        self.assertEqual(joined[1:], bent[1:])
        self.assertEqual("x, ~a, ~x, y, ~y, a ; a ; 0-2 1-6 3-4 5-7", told(bent[2]))


class Refused(unittest.TestCase):
    def refuses(self, number, held, i, j):
        self.assertEqual([number], run(("set", held), ("bend", i, j))[1], (held, i, j))
        self.assertEqual(known(("set", held)), known(("set", held), ("bend", i, j)))

    def test_no_such_conclusion(self):
        for wrong in (-1, -2, 2, 3, HUGE, -HUGE, 2 ** 32, 1 - 2 ** 32):
            self.refuses(-4, NEW, wrong, 0)
            self.refuses(-4, NEW, wrong, 1)
            self.refuses(-4, NEW, 0, wrong)
            self.refuses(-4, NEW, 1, wrong)
            # Ahead of -8.
            self.refuses(-4, NEW, wrong, wrong)
            self.refuses(-4, "a, b*~a*~b ;; 0-2 1-3", wrong, 0)
            self.refuses(-4, "a, b*~a*~b ;; 0-2 1-3", 0, wrong)
        for text in (";;", "; a, ~a ; 0-1 2-3"):
            self.refuses(-4, text, 0, 0)
            self.refuses(-4, text, 0, 1)
            self.refuses(-4, text, -1, 0)

    def test_i_is_j(self):
        for k in (0, 1):
            self.refuses(-8, NEW, k, k)
        for k in range(6):
            self.refuses(-8, HELD, k, k)

    def test_no_dual(self):
        self.refuses(-8, "a, ~a, a, ~a ;; 0-1 2-3", 0, 2)
        self.refuses(-8, "a, ~a, a, ~a ;; 0-1 2-3", 3, 1)
        self.refuses(-8, "a, ~a, b, ~b ;; 0-1 2-3", 0, 3)
        for i, j in ((0, 2), (0, 3), (1, 5), (3, 4), (5, 0), (2, 1)):
            self.refuses(-8, HELD, i, j)
        self.refuses(-8, "a*b, ~b|~a ;; 0-3 1-2", 0, 1)
        self.refuses(-8, "a*b, ~a*~b ;; 0-2 1-3", 0, 1)
        self.refuses(-8, "a|b, ~a|~b ;; 0-2 1-3", 0, 1)
        self.refuses(-8, "(a*b)*c, ~a|~b|~c ;; 0-3 1-4 2-5", 0, 1)


class MoreThanTwenty(unittest.TestCase):
    def test_twenty_nine_cuts_in_a_row(self):
        # Each ~a is joined to the a behind it, so that one row from the first a to the last ~a is left.
        calls = [("set", row_of_cuts(20, 20))] + [("bend", 2, 1)] * 9
        found = run(*calls, ("walk", 0), ("walk", 1), ("count",), ("cuts",), ("draw",), ("normal",), ("step", 28),
                    ("steps", [27, 27]), ("finish", 0), ("form",))
        self.assertEqual([[60]] + [[k] for k in range(21, 30)], found[:10])
        self.assertEqual([[1, 29], [0, 29], [29], [29] + [0, 1] * 29, [1]], found[10:15])
        self.assertEqual("a, ~a ;  ; 0-1", told(found[15]))
        self.assertEqual([[28], [2, 26], [26, 0], found[15]], found[16:])

    def test_their_form(self):
        calls = [("set", row_of_cuts(20, 4)), ("bend", 2, 1)]
        # Behind the 20 cuts, whose leaves are 2 to 41, come 42 a, 43 ~a; the a was linked with the last conclusion.
        pairs = [(0, 3), (1, 42), (40, 43)] + [(k, k + 3) for k in range(2, 40, 2)]
        self.assertEqual("a, ~a ; " + ", ".join(["a"] * 21) + " ; " + pairs_text(pairs), form_behind(*calls))

    def test_thirty_stuck_cuts(self):
        cuts = [("bend", 0, 1)] * 10
        text = ", ".join(["a", "~a"] * 10) + " ; " + ", ".join(["a"] * 20) + " ; "
        links = pairs_text([(k, k + 1) for k in range(0, 60, 2)])
        found = run(("set", text + links), *cuts, ("finish", 1), ("draw",), ("normal",), ("walk", 59), ("step", 29),
                    ("step", 30), ("bend", 0, 1), ("form",))
        self.assertEqual([[0, 30], [0], [-9], [-9], [-9], [-4], [-4]], found[11:18])
        self.assertEqual(" ; " + ", ".join(["a"] * 30) + " ; " + links, told(found[18]))

    def test_conclusions_with_numbers_above_twenty(self):
        calls = [("set", row_of_cuts(20, 20)), ("join", 0, 1, row_of_cuts(20, 20))]
        # 38 conclusions: ~a, nine times a and ~a, a, nine times a and ~a.
        found = run(*calls, ("bend", 36, 37), ("bend", 36, 0), ("bend", 35, 20), ("bend", 33, 34), ("bend", 33, 19),
                    ("bend", 33, 20), ("bend", 0, 19), ("finish", 1))
        self.assertEqual([[41], [42], [-4], [43], [-4], [-8], [44], [45]], found[1:9])
        # The circles of 36 and 37, and of 0 and 19 over all the first 41 cuts, leave a stuck cut each; the other two
        # bends are between 21, 20, 35 and 34, and leave one more.
        self.assertEqual([42, 3], found[9])


if __name__ == "__main__":
    unittest.main()
