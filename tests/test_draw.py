import re
import unittest

from lines import NEW, cut_text, known, own_links, run

SIXTY = "(" + "*".join(["a"] * 30) + ")|(" + "*".join(["b"] * 30) + ")"
NETS_WITH_CUTS = (NEW, "~a|~b, a*b ; a*b ; 0-4 1-5 2-6 3-7", "~a*~b, a|b ; a|b ; 0-4 1-5 2-6 3-7",
                  "~a|(~b*~c), a*(b|c) ; a*(b|c) ; 0-6 1-7 2-8 3-9 4-10 5-11",
                  "a, ~a ; a, a, a ; 0-3 1-6 2-5 4-7", "a|~a ; a ; 0-3 1-2")


def linked_by_name(conclusions):
    """A structure without cuts, in whose conclusions each name stands plain once and turned once."""
    names = re.findall("[a-z][a-z0-9]*", ",".join(conclusions))
    pairs = [(leaf, names.index(name, leaf + 1)) for leaf, name in enumerate(names) if name in names[leaf + 1:]]
    return ",".join(conclusions) + ";;" + " ".join(f"{low}-{high}" for low, high in pairs)


class Draw(unittest.TestCase):
    def draws(self, answer, text):
        self.assertEqual([answer], run(("set", text), ("draw",))[1], text)
        self.assertEqual(known(("set", text)), known(("set", text), ("draw",)))

    def test_a_new_object(self):
        self.assertEqual([[1], [0], [1]], run(("draw",), ("step", 0), ("draw",)))

    def test_no_formulas(self):
        # There's no cluster at all, and so not just one.
        self.draws(0, ";;")

    def test_one_link(self):
        self.draws(1, "a, ~a ;; 0-1")
        self.draws(1, "~a, a ;; 0-1")
        self.draws(1, "a|~a ;; 0-1")
        self.draws(0, "a*~a ;; 0-1")

    def test_tensors_and_pars(self):
        self.draws(1, "a*b, ~a|~b ;; 0-2 1-3")
        self.draws(1, "a*b, ~b|~a ;; 0-3 1-2")
        self.draws(1, "a*b, ~a, ~b ;; 0-2 1-3")
        self.draws(1, "(a*b)|~a|~b ;; 0-2 1-3")
        self.draws(1, "(a|~a)*(b|~b) ;; 0-1 2-3")
        self.draws(1, "a*(b|~b), ~a ;; 0-3 1-2")
        self.draws(1, "a|(~a*b), ~b ;; 0-1 2-3")

    def test_a_circle_among_the_edges(self):
        self.draws(0, "a*b, ~a*~b ;; 0-2 1-3")
        self.draws(0, "a*~a, b, ~b ;; 0-1 2-3")
        self.draws(0, "a*b*c, ~a|~b, d*~c*~d ;; 0-3 1-4 2-6 5-7")
        self.draws(0, "; a ; 0-1")
        self.draws(0, "a, ~a ; a ; 0-1 2-3")
        self.draws(0, "; a, a ; 0-3 1-2")
        self.draws(0, "a*~a ; a ; 0-3 1-2")

    def test_several_clusters_in_the_end(self):
        self.draws(0, "a, ~a, b, ~b ;; 0-1 2-3")
        self.draws(0, "a|~a, b|~b ;; 0-1 2-3")
        self.draws(0, "a, ~a, b, ~b ; a ; 0-5 1-4 2-3")
        self.draws(0, "(a*b)|~a, ~b, c, ~c ;; 0-2 1-3 4-5")
        self.draws(0, "~a|~b, a*b, c, ~c ; a*b, c ; 0-6 1-7 2-8 3-9 4-11 5-10")

    def test_pars_that_are_never_taken(self):
        self.draws(0, "a|b, ~a|~b ;; 0-2 1-3")
        self.draws(0, "a|b, ~a, ~b ;; 0-2 1-3")
        self.draws(0, "a|b, c|d, ~a*~c, ~b*~d ;; 0-4 1-6 2-5 3-7")
        # One of the par's two formulas hangs together with the par itself, the other one doesn't.
        self.draws(0, "(a|b)*c, ~a*~c, ~b ;; 0-3 1-5 2-4")

    def test_a_par_in_one_cluster_with_its_formulas(self):
        # All points hang together without a circle, and the par among them.
        self.draws(0, "((a|b)*~a)*~b ;; 0-2 1-3")
        self.draws(0, "(a|b)*~a*~b ;; 0-2 1-3")
        self.draws(0, "((a|b)*~a)*~b, c|~c ;; 0-2 1-3 4-5")

    def test_a_par_that_gets_into_one_cluster_with_its_formulas(self):
        # Each of the two pars is ready, and each joins the same two clusters.
        self.draws(0, "(a|b)*(c|d), ~a*~b*~c*~d ;; 0-4 1-5 2-6 3-7")

    def test_pars_that_are_ready_only_behind_others(self):
        self.draws(1, "(~a|~b)|~c, a*b*c ;; 0-3 1-4 2-5")
        self.draws(1, "~a|~b|~c, a*b*c ;; 0-3 1-4 2-5")
        self.draws(1, "(((~a|~b)|~c)|~d)|~e, a*(b*c)*(d*e) ;; 0-5 1-6 2-7 3-8 4-9")
        # ~c|~d is ready only when a|b has been taken, whichever of them stands first.
        self.draws(1, "(a|b)*c, ~a*~b*d, ~c|~d ;; 0-3 1-4 2-6 5-7")
        self.draws(1, "~c|~d, ~a*~b*d, (a|b)*c ;; 0-7 1-4 2-5 3-6")
        self.draws(0, "(a|b)*c, ~a*~b*d, ~c*~d ;; 0-3 1-4 2-6 5-7")

    def test_pars_in_a_long_row(self):
        # The par of l2 and r2 is ready only when that of l1 and r1 has been taken, which hangs by r2; and so on.
        row = [f"(l{k}|r{k})*~r{k + 1}" for k in range(1, 19)] + ["l19|r19"]
        lefts = "*".join(f"~l{k}" for k in range(1, 20))
        whole = row + [lefts + "*~r1"]
        self.draws(1, linked_by_name(whole))
        self.draws(1, linked_by_name(whole[::-1]))
        self.draws(1, linked_by_name(whole[::2] + whole[1::2]))
        broken = row[1:] + ["(l1|r1)|~r2", lefts + "*~r1"]
        self.draws(0, linked_by_name(broken))
        self.draws(0, linked_by_name(broken[::-1]))

    def test_cuts(self):
        for text in NETS_WITH_CUTS:
            self.draws(1, text)
        self.draws(0, "~a*~b, a*b ; a|b ; 0-4 1-5 2-6 3-7")
        self.draws(0, "a, ~a ; a, a ; 0-3 1-2 4-5")
        self.draws(0, "a, ~a ; a*a ; 0-4 1-3 2-5")
        self.draws(0, "a, ~a ; a|~a ; 0-4 1-2 3-5")

    def test_a_cut_whose_par_is_in_one_cluster_with_its_formulas(self):
        self.draws(0, cut_text("a*b", 2))
        self.draws(0, cut_text("a|b", 2))

    def test_steps_keep_nets(self):
        for text in NETS_WITH_CUTS:
            count = run(("set", text), ("count",))[1][0]
            for choice in (0, 1, 2, 3):
                calls = [("set", text)]
                for k in range(count):
                    calls += [("steps", [choice + k]), ("draw",)]
                self.assertEqual([[1]] * count, run(*calls)[2::2], text)

    def test_many_leaves(self):
        dual = "(" + "|".join(["~a"] * 30) + ")*(" + "|".join(["~b"] * 30) + ")"
        self.draws(1, f"{SIXTY}, {dual} ;; {own_links(60)}")
        self.draws(0, f"{SIXTY}, {dual} ;; {own_links(60)}".replace(")|(", ")*("))
        self.draws(0, cut_text(SIXTY, 60))


if __name__ == "__main__":
    unittest.main()
