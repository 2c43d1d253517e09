import unittest

from lines import NEW, cut_text, known, pairs_text, row_of_cuts, run

HUGE = 10 ** 18
STUCK = "a, ~a ; a ; 0-1 2-3"


def in_a_circle(cuts):
    links = [(0, 2 * cuts - 1)] + [(2 * k - 1, 2 * k) for k in range(1, cuts)]
    return "; " + ", ".join(["a"] * cuts) + " ; " + pairs_text(links)


class Walk(unittest.TestCase):
    def walks(self, text, *wanted):
        """From each leaf, in order."""
        found = run(("set", text), *[("walk", leaf) for leaf in range(len(wanted))])
        self.assertEqual([[len(wanted)]] + [list(one) for one in wanted], found, text)

    def test_a_new_object(self):
        self.assertEqual([[1, 1], [0, 1], [1, 0], [0, 0]], run(*[("walk", leaf) for leaf in range(4)]))

    def test_over_no_cut(self):
        self.walks("a, ~a ;; 0-1", (1, 0), (0, 0))
        self.walks("a*b, ~b|~a ;; 0-3 1-2", (3, 0), (2, 0), (1, 0), (0, 0))
        self.walks("a, ~a, b, ~b ; b ; 0-1 2-5 3-4", (1, 0), (0, 0), (3, 1), (2, 1), (3, 0), (2, 0))

    def test_over_one_cut(self):
        self.walks("a, ~a ; ~a ; 0-2 1-3", (1, 1), (0, 1), (0, 0), (1, 0))
        # The first atom is turned to the first one, not to the last one.
        self.walks("~a|~b, a*b ; a*b ; 0-4 1-5 2-6 3-7",
                   (2, 1), (3, 1), (0, 1), (1, 1), (0, 0), (1, 0), (2, 0), (3, 0))
        self.walks("~a, ~a, a, a ; a|a ; 0-5 1-4 2-7 3-6",
                   (2, 1), (3, 1), (0, 1), (1, 1), (1, 0), (0, 0), (3, 0), (2, 0))

    def test_over_one_cut_again_and_again(self):
        self.walks("a, ~a ; a*a ; 0-4 1-3 2-5", (1, 2), (0, 2), (1, 1), (1, 0), (0, 0), (0, 1))
        self.walks("a, ~a ; a|(a*a) ; 0-5 1-4 2-6 3-7",
                   (1, 3), (0, 3), (1, 2), (1, 1), (1, 0), (0, 0), (0, 1), (0, 2))

    def test_over_cuts_of_different_size(self):
        # The leaves are 2 b, 3 a, 4 ~b, 5 ~a of the first cut, 6 a, 7 c, 8 b, 9 ~a, 10 ~c, 11 ~b of the second one.
        self.walks("a, ~a ; b*a, a|c|b ; 0-5 1-6 2-11 3-9 4-8 7-10",
                   (1, 2), (0, 2), (-9,), (1, 1), (-9,), (0, 0), (1, 0), (-9,), (-9,), (0, 1), (-9,), (-9,))

    def test_over_many_cuts(self):
        for cuts in (2, 3, 20):
            wanted = [(1, cuts), (0, cuts)]
            for k in range(cuts):
                wanted += [(1, cuts - 1 - k), (0, k)]
            self.walks(row_of_cuts(cuts), *wanted)

    def test_over_one_cut_thirty_times_and_more(self):
        atoms = 59
        # The leaves of the cut are 2 to 60, those of its dual 61 to 119.
        links = [(0, 61), (1, 60)] + [(2 + k, 62 + k) for k in range(58)]
        cut = "(" + "*".join(["a"] * 30) + ")|(" + "*".join(["a"] * 29) + ")"
        text = f"a, ~a ; {cut} ; " + pairs_text(links)
        wanted = [(1, atoms), (0, atoms)] + [(1, 58 - k) for k in range(atoms)] + [(0, k) for k in range(atoms)]
        self.walks(text, *wanted)

    def test_never_ends(self):
        self.walks(STUCK, (1, 0), (0, 0), (-9,), (-9,))
        self.walks(cut_text("a*(b|c)", 3), *[(-9,)] * 6)
        for cuts in (1, 2, 3, 20):
            self.walks(in_a_circle(cuts), *[(-9,)] * (2 * cuts))

    def test_some_end_and_some_do_not(self):
        self.walks("a, ~a ; a, a, a ; 0-3 1-2 4-7 5-6", (1, 1), (0, 1), (1, 0), (0, 0), *[(-9,)] * 4)
        self.walks("a, ~a ; a*a ; 0-4 1-2 3-5", (1, 1), (0, 1), (1, 0), (-9,), (0, 0), (-9,))

    def test_no_such_leaf(self):
        for text, leaves in ((NEW, 4), (STUCK, 4), ("a, ~a ;; 0-1", 2), (";;", 0), (in_a_circle(3), 6)):
            for leaf in (leaves, leaves + 1, -1, -leaves - 1, -2, 120, HUGE, -HUGE, 2 ** 32, -2 ** 32):
                self.assertEqual([-4], run(("set", text), ("walk", leaf))[1], (text, leaf))

    def test_it_changes_nothing(self):
        for text in (NEW, STUCK, row_of_cuts(20), in_a_circle(4)):
            for leaf in (0, 1, 2, 3, 500, -1):
                self.assertEqual(known(("set", text)), known(("set", text), ("walk", leaf)))

    def test_behind_steps(self):
        found = run(("set", row_of_cuts(5)), ("step", 2), ("walk", 0), ("step", 0), ("walk", 0), ("finish", 1),
                    ("walk", 0), ("walk", 2))
        self.assertEqual([[4], [1, 4], [3], [1, 3], [3, 0], [1, 0], [-4]], found[1:])


if __name__ == "__main__":
    unittest.main()
