import unittest

from lines import NEW, cut_text, known, run, told

STUCK = "a, ~a ; a ; 0-1 2-3"
FREE = (NEW, "a, ~a ;  ; 0-1", " ;  ; ", "~a|~b, a*b, c, ~c ; a*b, c ; 0-6 1-7 2-8 3-9 4-11 5-10",
        "~a|(~b*~c), a*(b|c) ; a*(b|c) ; 0-6 1-7 2-8 3-9 4-10 5-11", "a, ~a ; a, a, a ; 0-3 1-6 2-5 4-7",
        "a, ~a ; a*a ; 0-4 1-3 2-5", "a|a, ~a*~a ; a|(a*a), ~a ; 0-7 1-11 2-4 3-6 5-8 9-10")


class Normal(unittest.TestCase):
    def has(self, text, form):
        self.assertEqual(form, told(run(("set", text), ("normal",))[1]))
        self.assertEqual(known(("set", text)), known(("set", text), ("normal",)))

    def refuses(self, text):
        self.assertEqual([-9], run(("set", text), ("normal",))[1], text)
        self.assertEqual(known(("set", text)), known(("set", text), ("normal",)))

    def test_a_new_object(self):
        wanted = [ord(letter) for letter in "a, ~a ;  ; 0-1"]
        self.assertEqual([[14] + wanted], run(("normal",)))

    def test_what_is_held_stays(self):
        found = run(("normal",), ("form",), ("cuts",), ("count",))
        self.assertEqual([NEW, [1, 0, 1], [1]], [told(found[1])] + found[2:])

    def test_cuts_of_several_atoms(self):
        self.has("~a|~b, a*b ; a*b ; 0-4 1-5 2-6 3-7", "~a|~b, a*b ;  ; 0-2 1-3")
        self.has("~a, ~a, a, a ; a|a ; 0-4 1-5 2-7 3-6", "~a, ~a, a, a ;  ; 0-3 1-2")
        self.has("a, ~a, b, ~b ; a ; 0-5 1-4 2-3", "a, ~a, b, ~b ;  ; 0-1 2-3")

    def test_no_cuts(self):
        for text in ("a, ~a ;  ; 0-1", "a*b, ~a|~b, c, ~c ;  ; 0-2 1-3 4-5", " ;  ; "):
            self.has(text, text)

    def test_as_behind_finish(self):
        for text in FREE:
            for w in (0, 1):
                found = run(("set", text), ("normal",), ("finish", w), ("form",), ("normal",))
                self.assertEqual(0, found[2][1], text)
                self.assertEqual(found[1], found[3], text)
                self.assertEqual(found[1], found[4], text)

    def test_the_same_behind_each_step(self):
        for text in FREE:
            count = run(("set", text), ("count",))[1][0]
            calls = [("set", text), ("normal",)]
            for k in range(count):
                calls += [("steps", [7 * k]), ("normal",)]
            found = run(*calls)
            self.assertEqual([found[1]] * (count + 1), found[1::2], text)

    def test_loose(self):
        self.refuses(STUCK)
        self.refuses("a, ~a ; ~a ; 0-1 2-3")
        self.refuses("a, ~a ; a, a ; 0-1 2-5 3-4")

    def test_loose_by_some_of_the_leaves_of_cuts_alone(self):
        self.refuses("a, ~a ; a, a ; 0-3 1-2 4-5")
        self.refuses("a, ~a ; a, a ; 0-5 1-4 2-3")
        self.refuses("a, ~a ; a*a ; 0-4 1-2 3-5")
        self.refuses("a, ~a ; a, a, a ; 0-3 1-2 4-7 5-6")

    def test_loose_until_nothing_is_left_but_the_circle(self):
        found = run(("set", "a, ~a ; a, a ; 0-3 1-2 4-5"), ("step", 0), ("normal",), ("finish", 0), ("normal",))
        self.assertEqual([[1], [-9], [0, 1], [-9]], found[1:])

    def test_no_conclusions(self):
        self.has(";;", " ;  ; ")
        # Where there are cuts alone no walk ends.
        self.refuses("; a ; 0-1")
        self.refuses("; a, a ; 0-3 1-2")
        self.refuses(cut_text("a*(b|c)", 3))

    def test_many_leaves(self):
        thirty = "(" + "*".join(["a"] * 15) + ")|(" + "*".join(["a"] * 15) + ")"
        dual = "(" + "|".join(["~a"] * 15) + ")*(" + "|".join(["~a"] * 15) + ")"
        # The cut turns the k-th to the k-th; each link to the cut's dual goes one further.
        links = [(k, 90 + (k + 1) % 30) for k in range(30)] + [(30 + k, 60 + k) for k in range(30)]
        ends = [(k, 30 + (k + 1) % 30) for k in range(30)]
        written = [" ".join(f"{low}-{high}" for low, high in pairs) for pairs in (links, ends)]
        self.has(f"{thirty}, {dual} ; {thirty} ; {written[0]}", f"{thirty}, {dual} ;  ; {written[1]}")


if __name__ == "__main__":
    unittest.main()
