"""DOC.md, "What's read": tags, remarks, what is nothing, attributes."""

import unittest

from tests.helper import in_body, in_head, outline

EMPTY = "html(head body)"


class Tags(unittest.TestCase):
    def test_a_start_tag_and_an_end_tag(self):
        self.assertEqual(in_body("<div>x</div>y"), "div('x') 'y'")

    def test_a_name_is_small(self):
        self.assertEqual(in_body("<SpAn>x</sPaN>y"), "span('x') 'y'")

    def test_a_name_goes_up_to_a_blank_a_slash_or_the_tags_end(self):
        for sign in "\t\n\f /":
            self.assertEqual(in_body("<span" + sign + "x>y"), "span{x=''}('y')")
        self.assertEqual(in_body("<a=b\"<&amp;>x"), "a=b\"<&amp;('x')")

    def test_an_end_tag_with_an_odd_name(self):
        self.assertEqual(in_body("<x-y>a</x-z>b</x-y>c"), "x-y('ab') 'c'")
        self.assertEqual(in_body("<x,y>a</x-y>b</X,Y>c"), "x,y('ab') 'c'")

    def test_names_that_differ_in_one_odd_sign(self):
        for sign in "@`{[:;,-z0":
            for other in "@`{[:;,-z0":
                shown = "x%s('a') 'b'" if sign == other else "x%s('ab')"
                self.assertEqual(in_body("<x%s>a</x%s>b" % (sign, other)), shown % sign)

    def test_an_end_tags_attributes_say_nothing(self):
        self.assertEqual(in_body("<i>x</i a='>' b / >y"), "i('x') 'y'")

    def test_a_less_that_begins_nothing_is_text(self):
        self.assertEqual(in_body("a<1<<b>c< d<"), "'a<1<' b('c< d<')")
        self.assertEqual(in_body("<"), "'<'")
        self.assertEqual(in_body("a>b"), "'a>b'")

    def test_the_64th_and_65th_code_point_of_a_name(self):
        name = "x" * 64
        self.assertEqual(in_body("<" + name + ">"), name)
        self.assertEqual(in_body("<" + name + "y>"), name)
        self.assertEqual(in_body("<" + name + "y>a</" + name + "z>b"), name + "('a') 'b'")
        self.assertEqual(in_body("<" + "x" * 63 + "y>a</" + "x" * 63 + "z>b"), "x" * 63 + "y('ab')")

    def test_code_points_of_a_name_are_counted_not_bytes(self):
        self.assertEqual(in_body("<x" + "é" * 64 + ">"), "x" + "é" * 63)


class CutOff(unittest.TestCase):
    def test_a_tag_that_the_end_cuts_off_is_nothing(self):
        whole = "<div a = \"1\" b='2' c=3 d/ />"
        for length in range(2, len(whole)):
            self.assertEqual(in_body("x" + whole[:length]), "'x'", whole[:length])
        self.assertEqual(in_body("x" + whole), "'x' div{a='1' b='2' c='3' d=''}")

    def test_an_end_tag_that_the_end_cuts_off_is_nothing(self):
        for cut in ("</p", "</p ", "</p a", "</p a=", "</p a='>", "</p /", "</"):
            self.assertEqual(in_body("<p>x" + cut), "p('x')")

    def test_all_of_it_is_nothing(self):
        self.assertEqual(in_body("x<a b='<i>c</i> &amp; <!-- d -->"), "'x'")

    def test_a_cut_tag_does_not_begin_body(self):
        self.assertEqual(outline("<html a=1><p b='"), "html{a='1'}(head body)")


class Remarks(unittest.TestCase):
    def test_up_to_its_end(self):
        self.assertEqual(in_body("x<!-- a > b -- c -->y"), "'x' #' a > b -- c ' 'y'")

    def test_up_to_the_first_end(self):
        self.assertEqual(in_body("x<!--a-->b-->"), "'x' #'a' 'b-->'")

    def test_empty(self):
        self.assertEqual(in_body("x<!---->y"), "'x' #'' 'y'")

    def test_its_own_hyphens_do_not_end_it(self):
        self.assertEqual(in_body("x<!-->y-->z"), "'x' #'>y' 'z'")
        self.assertEqual(in_body("x<!--->y-->z"), "'x' #'->y' 'z'")

    def test_more_hyphens(self):
        self.assertEqual(in_body("x<!----->y"), "'x' #'-' 'y'")
        self.assertEqual(in_body("x<!--a--->y"), "'x' #'a-' 'y'")

    def test_to_the_end(self):
        for cut in ("", "-", "--", "a", "a--", "--!>", "-- >"):
            self.assertEqual(in_body("x<!--" + cut), "'x' #" + ascii(cut))

    def test_no_references_and_no_tags_in_it(self):
        self.assertEqual(in_body("x<!--&amp;<b>-->"), "'x' #'&amp;<b>'")


class Nothing(unittest.TestCase):
    def test_up_to_the_next_greater(self):
        for nothing in ("<!DOCTYPE html>", "<!>", "<!->", "<!- ->", "<?xml a='b'?>", "<?>", "</>", "</ p>", "</1>", "</!-- >"):
            self.assertEqual(in_body("<p>x" + nothing + "y"), "p('xy')", nothing)

    def test_quotes_do_not_hide_a_greater(self):
        for start in ("<!a", "<?a", "</ ", "</1"):
            self.assertEqual(in_body("x" + start + " b='>'>y"), r'''"x'>y"''')

    def test_to_the_end(self):
        for nothing in ("<!", "<!-", "<!DOCTYPE", "<?", "<?x <b", "</", "</ x", "</<b"):
            self.assertEqual(in_body("x" + nothing), "'x'", nothing)

    def test_it_does_not_begin_body(self):
        self.assertEqual(outline("<!DOCTYPE html><?x?></ >"), EMPTY)

    def test_text_goes_on_behind_it(self):
        self.assertEqual(in_body("a<!x>b<?y>c</>d"), "'abcd'")


class Attributes(unittest.TestCase):
    def check(self, inner, shown):
        self.assertEqual(in_body("<i " + inner + ">x"), "i" + shown + "('x')")

    def test_values(self):
        self.check("a=1", "{a='1'}")
        self.check("a=\"1 2\"", "{a='1 2'}")
        self.check("a='1 2'", "{a='1 2'}")
        self.check("a=\"it's >\" b='\"'", "{a=\"it's >\" b='\"'}")
        self.check("a", "{a=''}")
        self.check("a=''", "{a=''}")
        self.check("a=", "{a=''}")
        self.check("a= ", "{a=''}")

    def test_blanks_around_the_equals_sign(self):
        self.check("a \t= \n 1 b\f=\f'2'", "{a='1' b='2'}")
        self.check("a b =c", "{a='' b='c'}")
        self.check("a= b=c", "{a='b=c'}")

    def test_a_value_without_quotes_goes_up_to_a_blank_or_greater(self):
        self.check("a=b/c=\"d'&e<f g", "{a='b/c=\"d\\'&e<f' g=''}")
        for sign in "\t\n\f ":
            self.check("a=b" + sign + "c", "{a='b' c=''}")

    def test_no_blank_between_attributes(self):
        self.check("a='1'b=\"2\"c", "{a='1' b='2' c=''}")
        self.check("a/b/c=d", "{a='' b='' c='d'}")

    def test_blanks_and_slashes_are_passed_over(self):
        self.check(" / a / / b //c", "{a='' b='' c=''}")

    def test_a_slash_parts_a_name_from_its_value(self):
        self.check("a/=b", "{a='' =b=''}")
        self.check("a /=b", "{a='' =b=''}")

    def test_a_name_may_begin_with_anything(self):
        self.check("=", "{==''}")
        self.check("==b", "{=='b'}")
        self.check("=a=b", "{=a='b'}")
        self.check("= =b", "{=='b'}")
        self.check("\"a' b", "{\"a'='' b=''}")
        self.check("<b", "{<b=''}")
        self.check("&amp;=1", "{&amp;='1'}")

    def test_a_name_is_small_and_a_value_is_as_it_is(self):
        self.check("ABz=ABz", "{abz='ABz'}")

    def test_of_two_with_one_name_the_first_counts(self):
        self.check("a=1 b=2 A=3 a", "{a='1' b='2'}")
        self.check("a a=1", "{a=''}")

    def test_they_stay_in_their_order(self):
        self.check("z=1 a=2 m=3", "{z='1' a='2' m='3'}")

    def test_the_64th_and_65th_code_point_of_a_name(self):
        name = "n" * 64
        self.check(name + "=1", "{" + name + "='1'}")
        self.check(name + "o=1", "{" + name + "='1'}")
        self.check(name + "o=1 " + name + "p=2 " + name + "=3", "{" + name + "='1'}")
        self.check(name[1:] + "o=1 " + name[1:] + "p=2", "{" + name[1:] + "o='1' " + name[1:] + "p='2'}")

    def test_a_value_may_be_long(self):
        self.check("a=" + "v" * 500, "{a='" + "v" * 500 + "'}")

    def test_the_64th_and_65th(self):
        names = ["n%d" % number for number in range(70)]
        shown = "{" + " ".join(name + "=''" for name in names[:64]) + "}"
        self.check(" ".join(names[:64]), shown)
        self.check(" ".join(names[:65]), shown)
        self.check(" ".join(names), shown)

    def test_those_that_do_not_count_for_their_names_are_not_counted(self):
        names = ["n%d" % number for number in range(70)]
        shown = "{" + " ".join(name + "=''" for name in names[:64]) + "}"
        self.check(" ".join(name + " " + name + "=1" for name in names), shown)
        self.check("n0 " * 30 + " ".join(names), shown)


class Short(unittest.TestCase):
    def test_a_slash_right_before_the_greater(self):
        for tag in ("<b/>", "<b />", "<b //>", "<b / />"):
            self.assertEqual(in_body(tag + "x"), "b 'x'", tag)
        self.assertEqual(in_body("<b a/>x"), "b{a=''} 'x'")
        self.assertEqual(in_body("<b a=''/>x"), "b{a=''} 'x'")
        self.assertEqual(in_body("<b a=1 />x"), "b{a='1'} 'x'")

    def test_a_slash_elsewhere(self):
        self.assertEqual(in_body("<b/ >x"), "b('x')")
        self.assertEqual(in_body("<b/a>x"), "b{a=''}('x')")

    def test_a_slash_in_a_value(self):
        self.assertEqual(in_body("<b a=/>x"), "b{a='/'}('x')")
        self.assertEqual(in_body("<b a=1/>x"), "b{a='1/'}('x')")
        self.assertEqual(in_body("<b a = />x"), "b{a='/'}('x')")
        self.assertEqual(in_body("<b a='/'>x"), "b{a='/'}('x')")
        self.assertEqual(in_body("<b a='/>'>x"), "b{a='/>'}('x')")

    def test_a_short_end_tag_ends(self):
        self.assertEqual(in_body("<b>x</b/>y"), "b('x') 'y'")

    def test_short_ones_of_all_sorts_are_put_and_not_opened(self):
        self.assertEqual(in_body("<div/>a<p/>b<table/>c<foo/>d"), "div 'a' p 'b' table 'c' foo 'd'")
        self.assertEqual(in_body("<table><tr/><td/>x"), "table(tbody(tr tr(td))) 'x'")
        self.assertEqual(in_head("<title/><base/>"), "title base")


if __name__ == "__main__":
    unittest.main()
