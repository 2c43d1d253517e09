import unittest

from lines import NEW, cut_text, form_behind, run, told

STUCK = "a, ~a ; a ; 0-1 2-3"
HUGE = 10 ** 18


class Step(unittest.TestCase):
    def steps_to(self, text, k, left, form):
        found = run(("set", text), ("step", k), ("form",), ("count",))
        self.assertEqual([left], found[1])
        self.assertEqual(form, told(found[2]))
        self.assertEqual([left], found[3])

    def refuses(self, text, k, number):
        found = run(("set", text), ("form",), ("step", k), ("form",), ("cuts",), ("count",))
        self.assertEqual([number], found[2])
        self.assertEqual(found[1], found[3])
        self.assertEqual(run(("set", text), ("cuts",), ("count",))[1:], found[4:])

    def test_the_example(self):
        self.steps_to(NEW, 0, 0, "a, ~a ;  ; 0-1")
        self.assertEqual([[0]], run(("step", 0)))

    def test_a_tensor(self):
        self.steps_to("~a|~b, a*b ; a*b ; 0-4 1-5 2-6 3-7", 0, 2, "~a|~b, a*b ; a, b ; 0-4 1-6 2-5 3-7")

    def test_a_par(self):
        self.steps_to("~a*~b, a|b ; a|b ; 0-4 1-5 2-6 3-7", 0, 2, "~a*~b, a|b ; a, b ; 0-4 1-6 2-5 3-7")

    def test_two_formulas_of_different_size(self):
        # The leaves are 0 1 2 of a*(b|c), 3 4 5 of its dual; then 0 1 of a, 2 3 4 5 of b|c and its dual.
        self.steps_to(";a*(b|c);0-3 1-4 2-5", 0, 4, " ; a, b|c ; 0-1 2-4 3-5")
        self.steps_to(";(a*b)|c;0-3 1-4 2-5", 0, 4, " ; a*b, c ; 0-2 1-3 4-5")
        self.steps_to(";(a*b)|(c*d*(e|~f));0-6 1-7 2-8 3-9 4-10 5-11", 0, 10,
                      " ; a*b, c*d*(e|~f) ; 0-2 1-3 4-8 5-9 6-10 7-11")

    def test_alike_names_keep_their_own_links(self):
        text = "~a, ~a, ~a, a, a, a ; a*a*a ; 0-8 1-6 2-7 3-10 4-11 5-9"
        self.steps_to(text, 0, 4, "~a, ~a, ~a, a, a, a ; a, a*a ; 0-9 1-6 2-8 3-10 4-11 5-7")

    def test_links_within_the_cut(self):
        self.steps_to("a, ~a;a*~a;0-3 1-2 4-5", 0, 2, "a, ~a ; a, ~a ; 0-4 1-2 3-5")

    def test_the_two_cuts_stand_in_the_place_of_the_one(self):
        text = ";x,a*b,y;0-1 2-4 3-5 6-7"
        self.steps_to(text, 1, 4, " ; x, a, b, y ; 0-1 2-3 4-5 6-7")

    def test_an_atom_between_others(self):
        text = "a, ~a, b, ~b ; b, a, b*b ; 0-7 1-6 2-5 3-4 8-10 9-11"
        self.steps_to(text, 1, 4, "a, ~a, b, ~b ; b, b*b ; 0-1 2-5 3-4 6-8 7-9")

    def test_a_turned_atom(self):
        self.steps_to("a, ~a ; ~a ; 0-2 1-3", 0, 0, "a, ~a ;  ; 0-1")

    def test_partners_that_are_leaves_of_cuts(self):
        self.steps_to(";a,a;0-3 1-2", 0, 1, " ; a ; 0-1")
        self.steps_to(";a,a;0-3 1-2", 1, 1, " ; a ; 0-1")
        self.refuses(" ; a ; 0-1", 0, -9)

    def test_two_formulas_are_never_stuck(self):
        self.steps_to(cut_text("a*b", 2), 0, 2, " ; a, b ; 0-1 2-3")
        self.steps_to(";a*~a;0-1 2-3", 0, 2, " ; a, ~a ; 0-2 1-3")

    def test_stuck(self):
        self.refuses(STUCK, 0, -9)
        self.refuses(";~a;0-1", 0, -9)
        self.refuses("a,~a;a,a;0-3 1-2 4-5", 1, -9)
        self.steps_to("a,~a;a,a;0-3 1-2 4-5", 0, 1, "a, ~a ; a ; 0-1 2-3")

    def test_a_cut_that_a_step_made_stuck(self):
        found = run(("set", ";a,a;0-3 1-2"), ("step", 1), ("step", 0), ("form",))
        self.assertEqual([[1], [-9]], found[1:3])
        self.assertEqual(" ; a ; 0-1", told(found[3]))

    def test_no_cut_with_this_number(self):
        for k in (1, 2, -1, -2, HUGE, -HUGE, 2 ** 32, -2 ** 32):
            self.refuses(NEW, k, -4)
            self.refuses(STUCK, k, -4)
        for k in (0, 1, -1, HUGE, -HUGE):
            self.refuses("a,~a;;0-1", k, -4)
            self.refuses(";;", k, -4)

    def test_the_last_cut(self):
        self.steps_to(";x,y,a*b;0-1 2-3 4-6 5-7", 2, 4, " ; x, y, a, b ; 0-1 2-3 4-5 6-7")
        self.refuses(";x,y,a*b;0-1 2-3 4-6 5-7", 3, -4)

    def test_a_refused_step_goes_on_as_before(self):
        found = run(("step", 1), ("step", -1), ("step", 0), ("step", 0))
        self.assertEqual([[-4], [-4], [0], [-4]], found)

    def test_each_step_takes_one_from_the_count(self):
        text = "~a|(~b*~c), a*(b|c) ; a*(b|c) ; 0-6 1-7 2-8 3-9 4-10 5-11"
        for order in ((0, 0, 0, 0, 0), (0, 1, 2, 1, 0), (0, 0, 0, 1, 0), (0, 1, 0, 1, 0)):
            found = run(("set", text), *[("step", k) for k in order], ("form",))
            self.assertEqual([[4], [3], [2], [1], [0]], found[1:6])
            self.assertEqual("~a|(~b*~c), a*(b|c) ;  ; 0-3 1-4 2-5", told(found[6]))

    def test_sixty_atoms_step_by_step(self):
        half = "(" + "*".join(["a"] * 30) + ")|(" + "*".join(["b"] * 30) + ")"
        # The first step leaves two cuts, which are taken apart one behind the other.
        order = [0] + list(range(29)) + list(range(30, 59))
        calls = [("set", cut_text(half, 60))] + [("step", k) for k in order]
        found = run(*calls)
        self.assertEqual([[118 - k] for k in range(59)], found[1:])
        self.assertEqual(" ; " + ", ".join(["a"] * 30 + ["b"] * 30) + " ; "
                         + " ".join(f"{k}-{k + 1}" for k in range(0, 120, 2)), form_behind(*calls))


if __name__ == "__main__":
    unittest.main()
