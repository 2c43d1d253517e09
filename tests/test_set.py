import unittest

from lines import NEW, cut_text, form_behind, own_links, run, set_answer

# 60 atoms, depth 31.
SIXTY = "(" + "*".join(["a"] * 30) + ")|(" + "*".join(["a"] * 30) + ")"
SIXTY_ONE = "(" + "*".join(["a"] * 31) + ")|(" + "*".join(["a"] * 30) + ")"


def chain(atoms, sign="*"):
    return sign.join(["a"] * atoms)


class SetCase(unittest.TestCase):
    def refuses(self, number, text):
        """The refusal alone is answered, and another structure that was held is held still."""
        before = ("set", "b, ~b ; c*d ; 0-1 2-4 3-5")
        found = run(before, ("form",), ("set", text), ("form",), ("cuts",), ("count",))
        self.assertEqual([number], found[2], text)
        self.assertEqual(found[1], found[3], text)
        self.assertEqual([[1, 1, 2], [3]], found[4:], text)

    def takes(self, leaves, text):
        self.assertEqual([leaves], set_answer(text), text)

    def reads(self, form, text):
        self.assertEqual(form, form_behind(("set", text)), text)


class Ordinary(SetCase):
    def test_how_many_leaves(self):
        self.takes(4, NEW)
        self.takes(2, "a, ~a;;0-1")
        self.takes(8, "a*b, ~a|~b ; a|b ; 0-6 1-7 2-4 3-5")

    def test_the_structure_held_is_this_one(self):
        self.reads("a*b, ~a|~b ; a|b ; 0-6 1-7 2-4 3-5", "a*b,~a|~b;a|b;0-6 1-7 2-4 3-5")

    def test_the_last_one_set_counts(self):
        self.assertEqual("c, ~c ;  ; 0-1", form_behind(("set", "b,~b;;0-1"), ("set", "c,~c;;0-1")))

    def test_leaves_are_numbered_conclusions_first_then_each_cut_and_its_dual(self):
        self.takes(6, "a, ~a; b, ~c ; 0-1 2-3 4-5")
        self.refuses(-3, "a, ~a; b, ~c ; 0-1 2-4 3-5")
        self.refuses(-3, "a, ~a; b, ~c ; 0-2 1-3 4-5")


class EmptyParts(SetCase):
    def test_nothing_at_all(self):
        self.takes(0, ";;")
        self.takes(0, "  ;   ; ")
        self.reads(" ;  ; ", ";;")

    def test_no_conclusions(self):
        self.reads(" ; a ; 0-1", ";a;0-1")

    def test_a_long_text_of_blanks_is_the_empty_sequent(self):
        self.takes(0, " " * 2500 + ";;")
        self.takes(0, ";" + " " * 2500 + ";")
        self.takes(0, ";;" + " " * 2500)

    def test_an_empty_formula_is_none(self):
        for text in (",;;", "a,;;", ",a;;", "a,,~a;;0-1", "a, ,~a;;0-1", ";,;", ";a,;0-1", "a,~a,;;0-1", "a,~a, ;;0-1"):
            self.refuses(-1, text)


class Parts(SetCase):
    def test_just_two_semicolons(self):
        for text in ("", " ", "a", "a, ~a", "a, ~a ; 0-1", ";", ";;;", "a,~a;;0-1;", "a;~a;;0-1"):
            self.refuses(-1, text)

    def test_twenty_formulas_and_one_more(self):
        ten = ", ".join(["a", "~a"] * 10)
        pairs = " ".join(f"{k}-{k + 1}" for k in range(0, 20, 2))
        self.takes(20, f"{ten};;{pairs}")
        self.refuses(-1, f"{ten}, a;;{pairs}")
        self.refuses(-1, f"{ten}, a, ~a;;{pairs} 20-21")
        cuts = ",".join(["a"] * 20)
        pairs = " ".join(f"{k}-{k + 1}" for k in range(0, 40, 2))
        self.takes(40, f";{cuts};{pairs}")
        self.refuses(-1, f";{cuts},a;{pairs} 40-41")

    def test_twenty_of_both(self):
        conclusions = ", ".join(["a", "~a"] * 10)
        cuts = ",".join(["a"] * 20)
        pairs = " ".join(f"{k}-{k + 1}" for k in range(0, 60, 2))
        self.takes(60, f"{conclusions};{cuts};{pairs}")


class Names(SetCase):
    def test_twelve_bytes_and_thirteen(self):
        for name in ("a", "z", "a0", "z9", "abcdefghijkl", "a12345678901", "o", "oo"):
            self.takes(2, cut_text(name, 1))
        for name in ("abcdefghijklm", "a123456789012", "0", "9a", "1abc", "0123456789ab"):
            self.refuses(-1, cut_text(name, 1))

    def test_a_stretch_is_not_cut_into_two_names(self):
        self.refuses(-1, cut_text("abcdefghijklmnop", 2))
        self.refuses(-1, cut_text("a b", 2))
        self.refuses(-1, cut_text("a 1", 1))

    def test_other_bytes(self):
        for byte in list(range(32)) + [33, 39, 43, 46, 47, 58, 64, 65, 90, 91, 95, 96, 123, 125, 127, 128, 225, 255]:
            for text in (";a%;0-1", ";%a;0-1", ";a*%b;0-2 1-3", "%;;", ";;%", ";a;0-1%", ";a;%0-1", ";a;0%-1"):
                numbers = []
                for letter in text:
                    numbers.append(byte if letter == "%" else ord(letter))
                self.refuses(-1, numbers)


class Formulas(SetCase):
    def test_signs(self):
        self.reads(" ; a*b ; 0-2 1-3", ";a*b;0-2 1-3")
        self.reads(" ; a|b ; 0-2 1-3", ";a|b;0-2 1-3")
        self.reads(" ; ~a|b ; 0-2 1-3", ";a-ob;0-2 1-3")
        self.reads(" ; ~a ; 0-1", ";~a;0-1")

    def test_tilde_is_the_dual_of_the_part_behind_it(self):
        self.reads(" ; a ; 0-1", ";~~a;0-1")
        self.reads(" ; ~a ; 0-1", ";~ ~ ~ (a);0-1")
        self.reads(" ; ~a*b ; 0-2 1-3", ";~a*b;0-2 1-3")
        self.reads(" ; ~a|~b ; 0-2 1-3", ";~(a*b);0-2 1-3")
        self.reads(" ; ~a*~b ; 0-2 1-3", ";~(a|b);0-2 1-3")
        self.reads(" ; ~a|(b*c) ; 0-3 1-4 2-5", ";~(a*(~b|~c));0-3 1-4 2-5")

    def test_arrow(self):
        self.reads(" ; ~a|~b|c ; 0-3 1-4 2-5", ";a -o b -o c;0-3 1-4 2-5")
        self.reads(" ; (a*~b)|c ; 0-3 1-4 2-5", ";(a -o b) -o c;0-3 1-4 2-5")
        self.reads(" ; (~a|~b)|c|d ; 0-4 1-5 2-6 3-7", ";a*b-oc|d;0-4 1-5 2-6 3-7")
        self.reads(" ; a*~b ; 0-2 1-3", ";~(a-ob);0-2 1-3")
        self.reads(" ; ~a|o ; 0-2 1-3", ";a-oo;0-2 1-3")
        self.reads(" ; a*(~b|c) ; 0-3 1-4 2-5", ";a*(b-oc);0-3 1-4 2-5")

    def test_chains_have_one_sign(self):
        for formula in ("a*b|c", "a|b*c", "a*b*c|d", "(a*b|c)", "~(a|b*c)", "a-ob*c|d", "a*b|c-od"):
            self.refuses(-1, cut_text(formula, 3))
        self.reads(" ; a*(b|c) ; 0-3 1-4 2-5", ";a*(b|c);0-3 1-4 2-5")
        self.reads(" ; a*b*(c|d|e)*f ; " + own_links(6), cut_text("a*b*((c|(d|e))*f)", 6))
        self.reads(" ; (~a|~b)|(c*d) ; " + own_links(4), cut_text("a*b-oc*d", 4))

    def test_no_formulas(self):
        for formula in ("*", "a*", "*a", "a**b", "a|", "|a", "a*|b", "~", "~*a", "a~", "a~b", "()", "(", ")", "(a",
                        "a)", "a(b)", "(a)(b)", "(a)b", "(a))", ")a(", "-oa", "a-o", "a-o-ob", "a*-ob", "a-o*b", "~-oa",
                        "(-oa)", "(a-o)", "a-b", "a-", "-", "a- ob", "a -", "a-", "a-O b", "(*)", "~()", "a b", "(a*)b",
                        "(a b", "(a~", "(a(", "(a~b)", "~(a b", "(a*b c"):
            self.refuses(-1, cut_text(formula, 1))
            self.refuses(-1, f"{formula}, a, ~a;;0-1")
            self.refuses(-1, f"a, ~a, {formula};;0-1")

    def test_blanks_where_they_may_stand(self):
        self.reads(" ; (a*b1)|~c|d ; 0-4 1-5 2-6 3-7",
                   "  ;   (  a  *  b1  )  |  ~  c  |  d   ;   0-4 1-5 2-6 3-7  ")
        self.reads("a, ~a ; b ; 0-1 2-3", "  a  ,  ~  a  ;  b  ;  0-1 2-3  ")
        self.reads(" ; ~a|b ; 0-2 1-3", "; a  -o  b ;0-2 1-3")

    def test_needless_brackets(self):
        self.reads(" ; a*b*c ; 0-3 1-4 2-5", ";((a)*((b)*(c)));0-3 1-4 2-5")
        self.reads(" ; (a*b)*c ; 0-3 1-4 2-5", ";((((a*b)))*c);0-3 1-4 2-5")


class TextLength(SetCase):
    def test_two_thousand_bytes_and_one_more(self):
        self.takes(2, cut_text(" " * 1999 + "a", 1))
        self.takes(2, cut_text("a" + " " * 1999, 1))
        self.refuses(-1, cut_text(" " * 2000 + "a", 1))
        self.refuses(-1, cut_text("a" + " " * 2000, 1))
        self.refuses(-1, cut_text(" " * 1000 + "a" + " " * 1000, 1))

    def test_it_holds_for_each_formula_by_itself(self):
        self.takes(2, " " * 1990 + "a,~a" + " " * 1990 + ";;0-1")
        self.refuses(-1, " " * 1980 + "a,~a" + " " * 1999 + ";;0-1")
        self.refuses(-1, " " * 2000 + "a,~a;;0-1")

    def test_long_nests_are_no_formulas(self):
        for text in ("(" * 1999 + "a", "~" * 1999 + "a", "a*" * 999 + "a", "a|" * 999 + "a", "a-o" * 666 + "a",
                     "(" * 999 + "a" + ")" * 999, "(" * 4000, ")" * 4000, "~(" * 999 + "a"):
            self.refuses(-1, f"{text};;"[:4000])


class Pending(SetCase):
    def test_brackets(self):
        self.takes(2, cut_text("(" * 100 + "a" + ")" * 100, 1))
        self.refuses(-1, cut_text("(" * 101 + "a" + ")" * 101, 1))

    def test_tildes(self):
        self.reads(" ; a ; 0-1", cut_text("~" * 100 + "a", 1))
        self.reads(" ; ~a ; 0-1", cut_text("~" * 99 + "a", 1))
        self.refuses(-1, cut_text("~" * 101 + "a", 1))
        self.refuses(-1, cut_text("~" * 102 + "a", 1))

    def test_arrows_and_chain_signs_alone_pass_the_bounds_first(self):
        for sign in ("-o", "*", "|"):
            self.refuses(-6, cut_text(sign.join(["a"] * 101), 101))
            self.refuses(-1, cut_text(sign.join(["a"] * 102), 102))

    def test_arrows_and_chain_signs_within_brackets(self):
        for sign in ("-o", "*", "|"):
            inner = sign.join(["a"] * 40)
            self.takes(80, cut_text("(" * 61 + inner + ")" * 61, 40))
            self.refuses(-1, cut_text("(" * 62 + inner + ")" * 62, 40))
            self.takes(80, cut_text("~" * 60 + "(" + inner + ")", 40))
            self.refuses(-1, cut_text("~" * 61 + "(" + inner + ")", 40))

    def test_brackets_and_tildes_behind_signs(self):
        for sign in ("-o", "*", "|"):
            self.takes(4, cut_text("a" + sign + "(" * 99 + "a" + ")" * 99, 2))
            self.refuses(-1, cut_text("a" + sign + "(" * 100 + "a" + ")" * 100, 2))
            self.takes(4, cut_text("a" + sign + "~" * 99 + "a", 2))
            self.refuses(-1, cut_text("a" + sign + "~" * 100 + "a", 2))

    def test_what_is_closed_no_longer_counts(self):
        for part in ("~" * 99 + "a", "(" * 99 + "a" + ")" * 99, "~(" * 49 + "a" + ")" * 49):
            for sign in ("-o", "*", "|"):
                self.takes(4, cut_text(part + sign + part, 2))
        self.refuses(-1, cut_text("a*" + "~" * 100 + "a", 2))
        self.takes(6, cut_text("~" * 100 + "a|" + "~" * 99 + "a|" + "~" * 98 + "a", 3))
        self.refuses(-1, cut_text("~" * 100 + "a|" + "~" * 99 + "a|" + "~" * 99 + "a", 3))

    def test_a_chain_is_closed_ahead_of_an_arrow(self):
        for sign in ("*", "|"):
            inner = chain(39, sign) + "-oa"
            self.takes(80, cut_text("(" * 62 + inner + ")" * 62, 40))
            self.refuses(-1, cut_text("(" * 63 + inner + ")" * 63, 40))

    def test_an_arrow_is_pending_to_the_end_of_its_formula(self):
        self.takes(8, cut_text("(" * 97 + "a-oa-oa*a" + ")" * 97, 4))
        self.refuses(-1, cut_text("(" * 98 + "a-oa-oa*a" + ")" * 98, 4))
        self.takes(8, cut_text("(" * 98 + "(a-oa)-oa*a" + ")" * 98, 4))
        self.refuses(-1, cut_text("(" * 99 + "(a-oa)-oa*a" + ")" * 99, 4))


class Bounds(SetCase):
    def test_sixty_atoms_and_one_more(self):
        self.takes(120, cut_text(SIXTY, 60))
        self.refuses(-6, cut_text(SIXTY_ONE, 61))
        self.refuses(-6, SIXTY_ONE + ";;")

    def test_depth_forty_and_one_more(self):
        for sign in ("*", "|", "-o"):
            self.takes(80, cut_text(chain(40, sign), 40))
            self.refuses(-6, cut_text(chain(41, sign), 41))
            self.refuses(-6, chain(41, sign) + ";;")

    def test_depth_to_the_left(self):
        left = "a"
        for k in range(39):
            left = f"({left})*a" if k % 2 else f"({left})|a"
        self.takes(80, cut_text(left, 40))
        self.refuses(-6, cut_text(f"a|({left})", 41))
        self.refuses(-6, cut_text(f"({left})*a", 41))

    def test_tildes_and_brackets_add_no_depth(self):
        self.takes(80, cut_text("~((" + chain(40) + "))", 40))

    def test_every_formula_is_looked_at(self):
        self.refuses(-6, "a, ~a, " + chain(41) + ";;0-1")
        self.refuses(-6, "a, ~a; a, " + chain(41) + ", b;0-1")


class Leaves(SetCase):
    def test_one_hundred_and_twenty_and_more(self):
        self.takes(120, f"{SIXTY}, ~({SIXTY});;{own_links(60)}")
        self.refuses(-5, f"{SIXTY}, ~({SIXTY}), b;;{own_links(60)}")
        self.refuses(-5, f"{SIXTY}, ~({SIXTY}), b, ~b;;{own_links(60)} 120-121")

    def test_a_cut_counts_twice(self):
        self.refuses(-5, f"a;{SIXTY};{own_links(60)}")
        self.refuses(-5, f"a,~a;{SIXTY};0-1 {own_links(60, 2)}")
        self.refuses(-5, f";{SIXTY},a;{own_links(60)} 120-121")
        self.takes(120, f"{chain(30)},~({chain(30)});{chain(30)};{own_links(30)} {own_links(30, 60)}")


class Links(SetCase):
    def test_blanks_before_and_behind(self):
        self.reads(NEW, "a,~a;a;     0-3 1-2     ")

    def test_blanks_elsewhere(self):
        for links in ("0-3  1-2", "0 -3 1-2", "0- 3 1-2", "0-31-2", "0-3\t1-2", "0-3,1-2", "0-3, 1-2",
                      "0-3 1 -2", "0-3 1- 2"):
            self.refuses(-1, f"a,~a;a;{links}")

    def test_no_links_text(self):
        for links in ("0", "-", "0-", "-0", "-3", "0-3 1", "0-3 -", "0-3 1-", "0-3 -2", "0--3 1-2", "0-3-1-2", "a-b",
                      "0-a", "+0-3", "0-3 1-2 x", "0-3 1-2,", "0:3 1-2", "0-3/1-2", "0-3 1-2 0", "--", "0-3 1-2-"):
            self.refuses(-1, f"a,~a;a;{links}")

    def test_needless_zeros(self):
        for links in ("00-3 1-2", "0-03 1-2", "0-3 01-2", "0-3 1-02", "0-3 1-002", "000-3 1-2"):
            self.refuses(-1, f"a,~a;a;{links}")

    def test_order(self):
        for links in ("1-2 0-3", "3-0 1-2", "0-3 2-1", "2-1 3-0", "0-3 0-3", "0-3 0-2", "0-0 1-2", "1-1",
                      "0-3 1-2 1-2"):
            self.refuses(-1, f"a,~a;a;{links}")
        self.refuses(-1, "a,~a,a,~a,a,~a,a,~a,a,~a,a,~a;;0-1 2-3 4-5 6-7 10-11 8-9")
        self.takes(12, "a,~a,a,~a,a,~a,a,~a,a,~a,a,~a;;0-1 2-3 4-5 6-7 8-9 10-11")
        self.takes(12, "a,~a,a,~a,a,~a,a,~a,a,~a,a,~a;;0-11 1-10 2-9 3-8 4-7 5-6")

    def test_a_leaf_left_out(self):
        for links in ("", " ", "0-3", "1-2", "0-1"):
            self.refuses(-3, f"a,~a;a;{links}")
        self.refuses(-3, "a;;")
        self.refuses(-3, "a, a, ~a, ~a;;0-3")

    def test_a_leaf_doubled(self):
        for links in ("0-3 1-3", "0-1 1-2", "0-3 1-2 2-3", "0-3 1-2 3-4", "0-1 1-2 2-3"):
            self.refuses(-3, f"a,~a;a;{links}")
        # Here no leaf is left out.
        self.refuses(-3, "a, a, ~a;;0-2 1-2")
        self.refuses(-3, "a, ~a, a;;0-1 1-2")

    def test_a_leaf_out_of_range(self):
        for links in ("0-4 1-2", "0-3 1-4", "4-5", "0-3 1-2 4-5", "0-3 1-2 100-101", "0-3 1-999",
                      "0-3 1-1000", "0-3 1-2 1000-2000"):
            self.refuses(-3, f"a,~a;a;{links}")
        self.refuses(-3, ";;0-1")

    def test_numbers_of_many_digits(self):
        huge = "1" * 1500
        self.refuses(-3, f"a,~a;a;0-{huge} 1-2")
        self.refuses(-3, f"a,~a;a;0-3 {huge}-{huge[:-1]}2")
        self.refuses(-3, f"a,~a;a;{huge}-{huge}1")
        self.refuses(-1, f"a,~a;a;{huge}-{huge}")
        self.refuses(-1, f"a,~a;a;{huge}-{huge[:-1]}0")
        self.refuses(-1, f"a,~a;a;{huge}-9")
        self.refuses(-1, f"a,~a;a;0-0{huge}")
        self.refuses(-3, "a,~a;a;0-18446744073709551619 1-2")

    def test_different_names(self):
        self.refuses(-3, "a, ~b;;0-1")
        self.refuses(-3, "a, ~b; ;0-1")
        self.refuses(-3, "a, ~a1;;0-1")
        self.refuses(-3, "a,~a,b,~b;;0-3 1-2")

    def test_two_alike(self):
        self.refuses(-3, "a, a;;0-1")
        self.refuses(-3, "~a, ~a;;0-1")
        self.refuses(-3, "a, ~a ; a ; 0-2 1-3")

    def test_turned_ahead_of_plain(self):
        self.takes(2, "~a, a;;0-1")


class Order(SetCase):
    """Of two faults the one that is looked at first is answered, wherever it stands."""

    def test_no_text_ahead_of_bounds(self):
        self.refuses(-1, chain(41) + ";;0")
        self.refuses(-1, chain(41) + ";*;")
        self.refuses(-1, chain(41) + ", *;;")
        self.refuses(-1, chain(41) + ";;;")
        self.refuses(-1, ", ".join([chain(41)] + ["a"] * 20) + ";;")

    def test_no_text_ahead_of_leaves(self):
        self.refuses(-1, f"{SIXTY},{SIXTY},a;;1-0")
        self.refuses(-1, f"{SIXTY},{SIXTY},a;a*;")

    def test_no_text_ahead_of_links(self):
        self.refuses(-1, "a, a ;; 0-1 01-2")
        self.refuses(-1, "a, a ;; 0-9 1-0")
        self.refuses(-1, "a, ~a ;; 7-8 0-1")

    def test_bounds_ahead_of_leaves(self):
        self.refuses(-6, f"{SIXTY},{SIXTY},{SIXTY_ONE};;")
        self.refuses(-6, f"{SIXTY},{SIXTY},a;{chain(41)};")

    def test_bounds_ahead_of_links(self):
        self.refuses(-6, f"{chain(41)};;0-1")

    def test_leaves_ahead_of_links(self):
        self.refuses(-5, f"{SIXTY},{SIXTY},a;;")
        self.refuses(-5, f"{SIXTY},{SIXTY},a;;0-1")


if __name__ == "__main__":
    unittest.main()
