import unittest

from lines import cut_text, own_links, run

SIXTY = "(" + "*".join(["a"] * 30) + ")|(" + "*".join(["a"] * 30) + ")"
THREE = ("set", "a, ~a ; b, c*(d|~e), ~f|g ; 0-1 2-3 4-7 5-8 6-9 10-12 11-13")


class Cuts(unittest.TestCase):
    def test_a_new_object(self):
        self.assertEqual([[1, 0, 1]], run(("cuts",)))

    def test_no_cuts(self):
        self.assertEqual([[0]], run(("set", ";;"), ("cuts",))[1:])
        self.assertEqual([[0]], run(("set", "a,~a;;0-1"), ("cuts",))[1:])
        self.assertEqual([[0]], run(("step", 0), ("cuts",))[1:])

    def test_each_in_order(self):
        self.assertEqual([3, 0, 1, 1, 3, 1, 2], run(THREE, ("cuts",))[1])

    def test_turned_atoms_and_pars(self):
        self.assertEqual([2, 0, 1, 1, 2], run(("set", ";~a,a|b;0-1 2-4 3-5"), ("cuts",))[1])

    def test_sixty_atoms(self):
        self.assertEqual([1, 1, 60], run(("set", cut_text(SIXTY, 60)), ("cuts",))[1])

    def test_stuck_cuts_are_told_too(self):
        self.assertEqual([1, 0, 1], run(("set", "a, ~a ; a ; 0-1 2-3"), ("cuts",))[1])

    def test_more_than_twenty(self):
        found = run(("set", cut_text(SIXTY, 60)), ("steps", [0] + list(range(29))), ("cuts",), ("count",))
        self.assertEqual([30, 31], found[1])
        self.assertEqual([31] + [0, 1] * 30 + [1, 30], found[2])
        self.assertEqual([30 + 59], found[3])


class Count(unittest.TestCase):
    def test_a_new_object(self):
        self.assertEqual([[1]], run(("count",)))

    def test_no_cuts(self):
        self.assertEqual([0], run(("set", ";;"), ("count",))[1])

    def test_the_sum_of_the_weights(self):
        self.assertEqual([1 + 5 + 3], run(THREE, ("count",))[1])
        self.assertEqual([119], run(("set", cut_text(SIXTY, 60)), ("count",))[1])

    def test_twenty_cuts(self):
        cuts = ",".join(["a|b|c"] * 20)
        links = " ".join(own_links(3, start) for start in range(0, 120, 6))
        self.assertEqual([100], run(("set", f";{cuts};{links}"), ("count",))[1])

    def test_stuck_cuts_weigh_too(self):
        self.assertEqual([1], run(("set", "a, ~a ; a ; 0-1 2-3"), ("count",))[1])
        self.assertEqual([3], run(("set", cut_text("a*b", 2)), ("count",))[1])

    def test_conclusions_weigh_nothing(self):
        self.assertEqual([0], run(("set", "a*b, ~a|~b ; ; 0-2 1-3"), ("count",))[1])

    def test_both_change_nothing(self):
        found = run(THREE, ("form",), ("cuts",), ("count",), ("cuts",), ("count",), ("form",))
        self.assertEqual(found[2:4], found[4:6])
        self.assertEqual(found[1], found[6])


if __name__ == "__main__":
    unittest.main()
