import unittest

from lines import NEW, form_behind, known, own_links, pairs_text, row_of_cuts, run, told

HUGE = 10 ** 18
HELD = "x, a*b, ~x, ~a|~b ; y ; 0-3 1-4 2-5 6-7"
OTHER = "z, ~a|~b, ~z, a*b ; w ; 0-3 1-4 2-5 6-7"
SIXTY = "(" + "*".join(["a"] * 30) + ")|(" + "*".join(["a"] * 30) + ")"
SIXTY_ONE = "(" + "*".join(["a"] * 31) + ")|(" + "*".join(["a"] * 30) + ")"
WRONG = ((0, 0), (4, 0), (-1, 0), (0, 4), (0, -1), (HUGE, HUGE), (-HUGE, -HUGE))


def two_sequents(leaves):
    """A structure of so many leaves, with the conclusions a and ~a ahead."""
    half = leaves // 2 - 1
    cut = "(" + "*".join(["a"] * (half // 2)) + ")|(" + "*".join(["a"] * (half - half // 2)) + ")"
    return f"a, ~a, {cut}, ~({cut}) ;; 0-1 {own_links(half, 2)}"


class Joined(unittest.TestCase):
    def joins(self, held, other, i, j, cuts, form):
        found = run(("set", held), ("join", i, j, other), ("form",))
        self.assertEqual([[cuts], form], [found[1], told(found[2])])

    def test_a_new_object(self):
        found = run(("join", 0, 0, "~a, a ;; 0-1"), ("form",), ("count",), ("draw",))
        self.assertEqual("~a, a ; a, a ; 0-2 1-5 3-4", told(found[1]))
        self.assertEqual([[2], [2], [1]], [found[0]] + found[2:])

    def test_both_have_cuts_and_other_conclusions(self):
        self.joins(HELD, OTHER, 1, 1, 3,
                   "x, ~x, ~a|~b, z, ~z, a*b ; y, w, a*b ; 0-1 2-12 3-13 4-5 6-14 7-15 8-9 10-11")
        self.joins(HELD, OTHER, 3, 3, 3,
                   "x, a*b, ~x, z, ~a|~b, ~z ; y, w, ~a|~b ; 0-3 1-12 2-13 4-7 5-14 6-15 8-9 10-11")

    def test_the_first_and_the_last_conclusion(self):
        self.joins("a, b, ~b, ~a ;; 0-3 1-2", "a, c, ~c, ~a ;; 0-3 1-2", 0, 3, 1,
                   "b, ~b, ~a, a, c, ~c ; a ; 0-1 2-6 3-7 4-5")
        self.joins("a, b, ~b, ~a ;; 0-3 1-2", "a, c, ~c, ~a ;; 0-3 1-2", 3, 0, 1,
                   "a, b, ~b, c, ~c, ~a ; ~a ; 0-6 1-2 3-4 5-7")

    def test_no_conclusion_is_left(self):
        self.joins("a|~a ;; 0-1", "~a*a ;; 0-1", 0, 0, 1, " ; a|~a ; 0-1 2-3")
        self.joins("a|~a ; b ; 0-1 2-3", "~a*a ; c*d ; 0-1 2-4 3-5", 0, 0, 3, " ; b, c*d, a|~a ; 0-1 2-4 3-5 6-7 8-9")

    def test_links_between_conclusions_and_cuts(self):
        # The leaves are 0 a, 1 ~a, 2 a, 3 ~a in both; the conclusion ~a of the other one goes.
        self.joins(NEW, NEW, 0, 1, 3, "~a, a ; a, a, a ; 0-2 1-5 3-6 4-7")
        self.joins(NEW, NEW, 1, 0, 3, "a, ~a ; a, a, ~a ; 0-3 1-4 2-6 5-7")

    def test_the_held_structure_comes_ahead(self):
        one = form_behind(("set", "p, ~p ; q ; 0-1 2-3"), ("join", 1, 0, "p, ~p ; r ; 0-1 2-3"))
        self.assertEqual("p, ~p ; q, r, ~p ; 0-6 1-7 2-3 4-5", one)

    def test_the_dual_may_be_written_another_way(self):
        self.joins("a|(b*c), ~a*(~b|~c) ;; 0-3 1-4 2-5", " ~(a|(b*c)) , (b -o ~c) -o a ;; 0-5 1-3 2-4", 0, 0, 1,
                   "~a*(~b|~c), (b*c)|a ; a|(b*c) ; 0-6 1-7 2-8 3-10 4-11 5-9")

    def test_again_and_again(self):
        calls = [("join", 1, 0, "a, ~a ;; 0-1")] * 30
        found = run(*calls, ("count",), ("finish", 1), ("form",))
        self.assertEqual([[k] for k in range(2, 32)], found[:30])
        self.assertEqual([[31], [31, 0]], found[30:32])
        self.assertEqual("a, ~a ;  ; 0-1", told(found[32]))

    def test_nets_that_are_joined_are_a_net(self):
        found = run(("join", 0, 1, NEW), ("draw",), ("join", 1, 1, "a, ~a ;; 0-1"), ("draw",))
        self.assertEqual([[3], [1], [4], [1]], found)
        self.assertEqual([0], run(("join", 0, 1, "a, ~a, b, ~b ;; 0-1 2-3"), ("draw",))[1])


class Refused(unittest.TestCase):
    def refuses(self, number, held, other, i, j):
        self.assertEqual([number], run(("set", held), ("join", i, j, other))[1], (other, i, j))
        self.assertEqual(known(("set", held)), known(("set", held), ("join", i, j, other)))

    def refuses_text(self, number, other):
        for i, j in WRONG:
            self.refuses(number, NEW, other, i, j)
        self.refuses(number, ";;", other, 0, 0)
        # Ahead of too many leaves together too.
        self.refuses(number, two_sequents(120), other, 0, 0)

    def test_no_structure(self):
        for text in ("", ";", ";;;", "a", "a, ~a", "a*;;", "~a, a ;; 00-1", "~a, a ;; 1-0", "~a,a,;;0-1", "~A,a;;0-1",
                     "a,~a;;0-0", [255], [0], SIXTY_ONE + ";;0", SIXTY + "," + SIXTY + ",a;;-", "a,a;;0-1 01-2",
                     ",".join(["a", "~a"] * 10 + ["a"]) + ";;", ";" + ",".join(["a"] * 21) + ";"):
            self.refuses_text(-1, text)

    def test_not_in_bounds(self):
        for text in (SIXTY_ONE + ";;", ";" + SIXTY_ONE + ";", "*".join(["a"] * 41) + ";;0-1",
                     f"{SIXTY},{SIXTY},{SIXTY_ONE};;"):
            self.refuses_text(-6, text)

    def test_too_many_leaves_in_the_text_alone(self):
        for text in (f"{SIXTY},{SIXTY},a;;", f"~a,a;{SIXTY};0-1 {own_links(60, 2)}", f"a,a,{SIXTY},{SIXTY};;0-1"):
            self.refuses_text(-5, text)

    def test_wrong_links(self):
        for text in ("~a, a ;;", "~a, ~a ;; 0-1", "~a, b ;; 0-1", "~a, a ;; 0-2", "~a, a, a ;; 0-1 1-2", ";;0-1"):
            self.refuses_text(-3, text)

    def test_no_such_conclusion(self):
        for i in (-1, -2, 2, 3, 4, HUGE, -HUGE, 2 ** 32):
            self.refuses(-4, NEW, "~a, a ;; 0-1", i, 0)
            self.refuses(-4, NEW, "~a, a, b, ~b ;; 0-1 2-3", i, 1)
        for j in (-1, -2, 2, 3, 4, HUGE, -HUGE, 2 ** 32):
            self.refuses(-4, NEW, "~a, a ; b ; 0-1 2-3", 0, j)
        self.refuses(-4, "a, ~a, b, ~b ;; 0-1 2-3", "~a, a ;; 0-1", 0, 3)
        self.refuses(-4, NEW, ";;", 0, 0)
        self.refuses(-4, ";;", NEW, 0, 0)
        self.refuses(-4, ";;", ";;", 0, 0)
        # A cut is no conclusion.
        self.refuses(-4, "a, ~a ; a, a ; 0-1 2-3 4-5", "~a, a ;; 0-1", 2, 0)
        self.refuses(-4, NEW, "; a ; 0-1", 0, 0)

    def test_no_such_conclusion_ahead_of_no_dual_and_too_many_leaves(self):
        self.refuses(-4, NEW, "b, ~b ;; 0-1", 2, 0)
        self.refuses(-4, NEW, "b, ~b ;; 0-1", 0, 2)
        for i, j in ((0, 4), (4, 1), (-1, 1), (0, -1), (4, 4)):
            self.refuses(-4, two_sequents(120), two_sequents(120), i, j)

    def test_no_dual(self):
        self.refuses(-8, NEW, "a, ~a ;; 0-1", 0, 0)
        self.refuses(-8, NEW, "a, ~a ;; 0-1", 1, 1)
        self.refuses(-8, NEW, "b, ~b ;; 0-1", 0, 1)
        self.refuses(-8, NEW, "a1, ~a1 ;; 0-1", 0, 1)
        self.refuses(-8, NEW, "a|~a ;; 0-1", 0, 0)
        held = "a*b, ~a|~b ;; 0-2 1-3"
        for other in ("a*b, ~a, ~b ;; 0-2 1-3", "~a*~b, a, b ;; 0-2 1-3", "a|b, ~a, ~b ;; 0-2 1-3",
                      "~b|~a, a, b ;; 0-3 1-2", "~a, a ;; 0-1", "~a|b, a, ~b ;; 0-2 1-3", "~a|~c, a, c ;; 0-2 1-3"):
            self.refuses(-8, held, other, 0, 0)
        self.refuses(-8, "(a*b)*c, (~a|~b)|~c ;; 0-3 1-4 2-5", "~a|(~b|~c), a*b*c ;; 0-3 1-4 2-5", 0, 0)

    def test_no_dual_ahead_of_too_many_leaves(self):
        self.refuses(-8, two_sequents(120), two_sequents(120), 0, 0)
        self.refuses(-8, two_sequents(120), NEW, 1, 1)

    def test_too_many_leaves_together(self):
        self.refuses(-5, two_sequents(120), two_sequents(120), 0, 1)
        self.refuses(-5, two_sequents(120), "~a, a ;; 0-1", 0, 0)
        self.refuses(-5, two_sequents(62), two_sequents(60), 0, 1)
        self.refuses(-5, "a, ~a ;; 0-1", two_sequents(120), 1, 0)

    def test_just_one_hundred_and_twenty_leaves(self):
        for one, other in ((60, 60), (62, 58), (58, 62)):
            found = run(("set", two_sequents(one)), ("join", 0, 1, two_sequents(other)), ("walk", 118), ("walk", 119),
                        ("walk", 120))
            # The new cut's leaves are linked with the held ~a, which stands first, and with the other's a.
            self.assertEqual([[one], [1], [0, 0], [one - 1, 0], [-4]], found)


class MoreThanTwenty(unittest.TestCase):
    # 20 conclusions, 20 cuts, 60 leaves in each of the two.
    calls = (("set", row_of_cuts(20, 20)), ("join", 0, 1, row_of_cuts(20, 20)))

    def behind(self, *calls):
        return run(*self.calls, *calls)[len(self.calls):]

    def test_thirty_eight_conclusions_and_forty_one_cuts(self):
        self.assertEqual([[60], [41]], run(*self.calls))
        held = "~a, " + ", ".join(["a", "~a"] * 9) + ", a, " + ", ".join(["a", "~a"] * 9)
        # 0 to 37 are the conclusions, 38 to 77 the held cuts, 78 to 117 the other's, 118 and 119 the new one's.
        pairs = [(39, 118), (0, 76)] + [(38 + 2 * k, 41 + 2 * k) for k in range(19)]
        pairs += [(k, k + 1) for k in range(1, 19, 2)] + [(k, k + 1) for k in range(20, 38, 2)]
        pairs += [(19, 79), (116, 119)] + [(78 + 2 * k, 81 + 2 * k) for k in range(19)]
        form = f"{held} ; " + ", ".join(["a"] * 41) + " ; " + pairs_text(pairs)
        self.assertEqual(form, form_behind(*self.calls))

    def test_the_form_is_told_but_not_read(self):
        form = form_behind(*self.calls)
        self.assertEqual([[-1], [-1]], self.behind(("set", form), ("join", 0, 1, form)))

    def test_cuts_and_count(self):
        self.assertEqual([[41] + [0, 1] * 41, [41]], self.behind(("cuts",), ("count",)))

    def test_steps(self):
        self.assertEqual([[40], [-4], [39], [1, 38]],
                         self.behind(("step", 40), ("step", 40), ("step", 39), ("steps", [HUGE])))

    def test_finish_and_normal(self):
        held = "~a, " + ", ".join(["a", "~a"] * 9) + ", a, " + ", ".join(["a", "~a"] * 9)
        pairs = [(0, 19)] + [(k, k + 1) for k in range(1, 19, 2)] + [(k, k + 1) for k in range(20, 38, 2)]
        form = f"{held} ;  ; " + pairs_text(pairs)
        for w in (0, 1):
            found = self.behind(("normal",), ("finish", w), ("form",), ("normal",))
            self.assertEqual([form, form, form], [told(found[0]), told(found[2]), told(found[3])])
            self.assertEqual([41, 0], found[1])

    def test_walk(self):
        found = self.behind(("walk", 0), ("walk", 19), ("walk", 1), ("walk", 118), ("walk", 119), ("walk", 120))
        self.assertEqual([[19, 41], [0, 41], [2, 0], [0, 20], [19, 20], [-4]], found)

    def test_draw(self):
        self.assertEqual([[0]], self.behind(("draw",)))

    def test_a_net(self):
        held = "*".join(["a"] * 19) + ", " + ", ".join(["~a"] * 19) + " ;; " + own_links(19)
        other = "a, ~a*" + "*".join(["b"] * 17) + ", " + ", ".join(["~b"] * 17) + " ;; 0-1 " + own_links(17, 2)
        found = run(("set", held), ("draw",), ("join", 1, 0, other), ("draw",), ("join", 1, 0, row_of_cuts(20)),
                    ("draw",), ("finish", 0), ("draw",))
        self.assertEqual([[38], [1], [1], [1], [22], [1], [22, 0], [1]], found)


if __name__ == "__main__":
    unittest.main()
