import unittest

from lines import NEW, cut_text, form_behind, own_links, run, told


class Form(unittest.TestCase):
    def writes(self, form, formula, atoms):
        self.assertEqual(f" ; {form} ; {own_links(atoms)}", form_behind(("set", cut_text(formula, atoms))))

    def test_a_new_object(self):
        self.assertEqual(NEW, form_behind())
        self.assertEqual([[19] + [ord(letter) for letter in NEW]], run(("form",)))

    def test_without_cuts_two_blanks_stand_between_the_semicolons(self):
        self.assertEqual("a, ~a ;  ; 0-1", form_behind(("set", "a,~a;;0-1")))
        self.assertEqual("a, ~a ;  ; 0-1", form_behind(("step", 0)))

    def test_empty_parts(self):
        self.assertEqual(" ;  ; ", form_behind(("set", ";;")))
        self.assertEqual(" ; a ; 0-1", form_behind(("set", ";a;0-1")))
        self.assertEqual([[0], [6, 32, 59, 32, 32, 59, 32]], run(("set", ";;"), ("form",)))

    def test_several_formulas(self):
        text = "a, ~a, b|~c, ~b*c ; a, b*c ; 0-1 2-4 3-5 6-7 8-10 9-11"
        self.assertEqual(text, form_behind(("set", text.replace(", ", ",").replace(" ; ", ";"))))

    def test_the_first_one_of_two_is_put_in_brackets(self):
        self.writes("(a*b)*c", "(a*b)*c", 3)
        self.writes("(a|b)|c", "(a|b)|c", 3)
        self.writes("(a*b)|c", "(a*b)|c", 3)
        self.writes("(a|b)*c", "(a|b)*c", 3)

    def test_the_second_one_only_if_it_has_the_other_sign(self):
        self.writes("a*b*c", "a*(b*c)", 3)
        self.writes("a|b|c", "a|(b|c)", 3)
        self.writes("a*(b|c)", "a*(b|c)", 3)
        self.writes("a|(b*c)", "a|(b*c)", 3)

    def test_nested(self):
        self.writes("((a*b)|~c)*(d|(e*f))*g", "((a*b)|~c)*(d|(e*f))*g", 7)
        self.writes("(a*b*c)|(d|e)|f", "(a*(b*c))|((d|e)|f)", 6)

    def test_turned_atoms_have_no_brackets(self):
        self.writes("~a*~b", "(~a)*(~b)", 2)
        self.writes("(~a*b)|~c", "(~a*b)|(~c)", 3)

    def test_links_by_rising_lesser_numbers(self):
        text = "a, a, a, ~a, ~a, ~a ;  ; 0-5 1-3 2-4"
        self.assertEqual(text, form_behind(("set", text)))

    def test_numbers_of_two_and_three_digits(self):
        half = "(" + "*".join(["a"] * 30) + ")|(" + "*".join(["b"] * 30) + ")"
        form = form_behind(("set", cut_text(half, 60)))
        self.assertEqual(f" ; {half} ; {own_links(60)}", form)
        self.assertTrue(form.endswith(" 9-69 10-70 11-71 " + " ".join(f"{k}-{60 + k}" for k in range(12, 60))))

    def test_a_form_is_read_as_itself(self):
        for text in (NEW, " ;  ; ", "a|~a ; (a*b)|~c ; 0-1 2-5 3-6 4-7"):
            found = run(("set", text), ("form",), ("set", text.strip()), ("form",))
            self.assertEqual(text, told(found[1]))
            self.assertEqual(found[1], found[3])

    def test_more_than_twenty_cuts_that_came_by_steps(self):
        cut = "*".join(["a"] * 25)
        form = form_behind(("set", cut_text(cut, 25)), ("steps", list(range(24))))
        pairs = " ".join(f"{k}-{k + 1}" for k in range(0, 50, 2))
        self.assertEqual(" ; " + ", ".join(["a"] * 25) + " ; " + pairs, form)

    def test_it_changes_nothing(self):
        found = run(("form",), ("form",), ("cuts",), ("form",))
        self.assertEqual(found[0], found[1])
        self.assertEqual(found[0], found[3])


if __name__ == "__main__":
    unittest.main()
