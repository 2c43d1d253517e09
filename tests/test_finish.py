import unittest

from lines import NEW, cut_text, form_behind, known, own_links, run, told

HUGE = 10 ** 18
STUCK = "a, ~a ; a ; 0-1 2-3"
THIRTY = "(" + "*".join(["a"] * 15) + ")|(" + "*".join(["b"] * 15) + ")"
FREE = (NEW, "~a|~b, a*b, c, ~c ; a*b, c ; 0-6 1-7 2-8 3-9 4-11 5-10",
        "~a|(~b*~c), a*(b|c) ; a*(b|c) ; 0-6 1-7 2-8 3-9 4-10 5-11",
        "a, ~a ; a, a, a ; 0-3 1-6 2-5 4-7", "a, ~a ; a*a ; 0-4 1-3 2-5")
# Circles of several cuts, in which the order of the steps tells which cut is left.
CIRCLES = ("; a, ~a ; 0-2 1-3", "; x, a, ~a, y ; 0-1 2-4 3-5 6-7", "; a*~a, ~a ; 0-4 1-3 2-5")


def by_single_steps(text, w):
    """What finish answers and the form behind it, found out by step alone."""
    calls = [("set", text)]
    while True:
        left = run(*calls, ("cuts",))[-1][0]
        order = range(left) if w == 0 else range(left - 1, -1, -1)
        free = [k for k in order if run(*calls, ("step", k))[-1] != [-9]]
        if not free:
            return [[len(calls) - 1, left], form_behind(*calls)]
        calls.append(("step", free[0]))


class Finish(unittest.TestCase):
    def ends(self, text, w, answer, form):
        found = run(("set", text), ("finish", w), ("form",), ("finish", w), ("finish", 1 - w), ("form",))
        self.assertEqual([answer, form], [found[1], told(found[2])])
        # Behind it all cuts are stuck: nothing is left to be done.
        self.assertEqual([[0, answer[1]]] * 2, found[3:5])
        self.assertEqual(found[2], found[5])

    def test_a_new_object(self):
        for w in (0, 1):
            self.assertEqual([[1, 0]], run(("finish", w)))
            self.assertEqual("a, ~a ;  ; 0-1", form_behind(("finish", w)))

    def test_both_ways_end_alike_where_nothing_is_stuck(self):
        for text in FREE:
            found = run(("set", text), ("count",), ("finish", 0), ("form",), ("set", text), ("finish", 1), ("form",))
            self.assertEqual([found[1][0], 0], found[2], text)
            self.assertEqual(found[2], found[5], text)
            self.assertEqual(found[3], found[6], text)

    def test_several_cuts(self):
        for w in (0, 1):
            self.ends(FREE[1], w, [4, 0], "~a|~b, a*b, c, ~c ;  ; 0-2 1-3 4-5")
            self.ends(FREE[2], w, [5, 0], "~a|(~b*~c), a*(b|c) ;  ; 0-3 1-4 2-5")
            self.ends(FREE[3], w, [3, 0], "a, ~a ;  ; 0-1")

    def test_a_cut_that_is_linked_with_itself(self):
        for w in (0, 1):
            self.ends(FREE[4], w, [3, 0], "a, ~a ;  ; 0-1")

    def test_thirty_atoms(self):
        links = [f"{k}-{90 + k}" for k in range(30)] + [f"{30 + k}-{60 + k}" for k in range(30)]
        conclusions = THIRTY + ", (" + "|".join(["~a"] * 15) + ")*(" + "|".join(["~b"] * 15) + ")"
        text = f"{conclusions} ; {THIRTY} ; " + " ".join(links)
        for w in (0, 1):
            self.ends(text, w, [59, 0], conclusions + " ;  ; " + own_links(30))

    def test_no_cuts(self):
        for w in (0, 1):
            self.ends(";;", w, [0, 0], " ;  ; ")
            self.ends("a,~a;;0-1", w, [0, 0], "a, ~a ;  ; 0-1")

    def test_stuck_cuts_stay(self):
        for w in (0, 1):
            self.ends(STUCK, w, [0, 1], STUCK)
            self.ends("a,~a;a,a;0-5 1-4 2-3", w, [1, 1], "a, ~a ; a ; 0-1 2-3")
            self.ends("a,~a;a,a;0-3 1-2 4-5", w, [1, 1], "a, ~a ; a ; 0-1 2-3")
            self.ends(cut_text("a*(b|c)", 3), w, [2, 3], " ; a, b, c ; 0-1 2-3 4-5")

    def test_stuck_cuts_ahead_and_behind_and_between(self):
        text = "a, ~a ; x, a, y*z, a, v ; 0-5 1-10 2-3 4-11 6-8 7-9 12-13"
        for w in (0, 1):
            self.ends(text, w, [3, 4], "a, ~a ; x, y, z, v ; 0-1 2-3 4-5 6-7 8-9")

    def test_the_first_or_the_last(self):
        self.ends(CIRCLES[0], 0, [1, 1], " ; ~a ; 0-1")
        self.ends(CIRCLES[0], 1, [1, 1], " ; a ; 0-1")

    def test_the_first_or_the_last_of_those_that_are_not_stuck(self):
        self.ends(CIRCLES[1], 0, [1, 3], " ; x, ~a, y ; 0-1 2-3 4-5")
        self.ends(CIRCLES[1], 1, [1, 3], " ; x, a, y ; 0-1 2-3 4-5")

    def test_what_comes_of_a_cut_stands_in_its_place(self):
        self.ends(CIRCLES[2], 0, [2, 2], " ; ~a, ~a ; 0-1 2-3")
        self.ends(CIRCLES[2], 1, [2, 2], " ; a, ~a ; 0-1 2-3")

    def test_as_single_steps_do(self):
        for text in FREE + CIRCLES + (STUCK, ";;"):
            for w in (0, 1):
                found = run(("set", text), ("finish", w), ("form",))
                self.assertEqual(by_single_steps(text, w), [found[1], told(found[2])], text)

    def test_sixty_stuck_cuts(self):
        cut = "(" + "*".join(["a"] * 30) + ")|(" + "*".join(["b"] * 30) + ")"
        form = " ; " + ", ".join(["a"] * 30 + ["b"] * 30) + " ; " + " ".join(f"{k}-{k + 1}" for k in range(0, 120, 2))
        for w in (0, 1):
            self.ends(cut_text(cut, 60), w, [59, 60], form)

    def test_other_numbers(self):
        for w in (-1, 2, 3, -2, HUGE, -HUGE, HUGE - 1, 2 ** 32, 2 ** 32 + 1, 1 - 2 ** 32):
            for text in (NEW, STUCK, ";;", "~a|~b, a*b ; a*b ; 0-4 1-5 2-6 3-7"):
                self.assertEqual([-2], run(("set", text), ("finish", w))[1])
                self.assertEqual(known(("set", text)), known(("set", text), ("finish", w)))


if __name__ == "__main__":
    unittest.main()
