"""DOC.md, "Elements": the lists of names, the depth, text put behind text, what's remembered."""

import unittest

from tests.helper import depth_of, in_body, in_head, nodes, outline, tree_numbers

VOID = "area base br col embed hr img input link meta source track wbr".split()
STYLED = "a b big code em font i s small strike strong tt u".split()
BLOCKS = (
    "address article aside blockquote center dd details dialog dir div dl dt fieldset figcaption figure footer form "
    "h1 h2 h3 h4 h5 h6 header hgroup hr li main menu nav ol p pre section table ul"
).split()
WALLS = "html body table td th caption button".split()
FRAMES = "table thead tbody tfoot tr colgroup".split()
CELLS = "td th caption".split()
PARTS = "thead tbody tfoot tr colgroup td th caption col".split()
HEADS = "base link meta title style script".split()
RAW = "script style title textarea".split()
OTHERS = "span q cite label select option optgroup object var kbd sub sup del ins mark x-y h7 search noscript".split()

ALL = sorted(set(VOID + STYLED + BLOCKS + WALLS + FRAMES + PARTS + HEADS + RAW + OTHERS + ["head"]))
NOT_PUT = ["html", "head", "body"] + PARTS


def put_in_body():
    return [name for name in ALL if name not in NOT_PUT]


class Lists(unittest.TestCase):
    def test_void(self):
        for name in put_in_body():
            closed = "" if name not in RAW else "</%s>" % name
            expected = name in VOID or name in RAW
            self.assertEqual(in_body("z<%s>%s<!--x-->" % (name, closed)).endswith("%s #'x'" % name), expected, name)
        self.assertEqual(in_body("<table><col><col>"), "table(colgroup(col col))")

    def test_styled(self):
        for name in put_in_body():
            if name in VOID or name in RAW or name in BLOCKS or name in WALLS:
                continue
            expected = "p({0}('x')) {0}('y')" if name in STYLED else "p({0}('x')) 'y'"
            self.assertEqual(in_body("<p><%s>x</p>y" % name), expected.replace("{0}", name), name)

    def test_blocks(self):
        for name in put_in_body():
            closed = "</%s>" % name if name in RAW else ""
            expected = "p('x') " + name if name in BLOCKS else "p('x' %s)" % name
            self.assertEqual(in_body("<p>x<%s>%s" % (name, closed)), expected, name)

    def test_walls(self):
        for name in put_in_body():
            if name in VOID or name in RAW or name == "em":
                continue
            # What isn't a wall is closed with the em around it.
            source = "<em><%s></em><!--x-->" % name
            shown = "em(%s(#'x'))" if name in WALLS else "em(%s) #'x'"
            self.assertEqual(in_body(source), shown % name, name)

    def test_cells_are_walls(self):
        for name in CELLS:
            self.assertIn("%s(b('x')) %s('y')" % (name, name), in_body("<table><%s><b>x<%s>y" % (name, name)))

    def test_frames(self):
        for name in FRAMES[1:]:
            # The table is closed before text, so the text stands beside it.
            self.assertTrue(in_body("<table><%s>x" % name).endswith(" 'x'"), name)
        self.assertEqual(in_body("<table>x"), "table 'x'")
        for name in CELLS:
            self.assertTrue(in_body("<table><%s>x" % name).endswith(")"), name)

    def test_parts(self):
        for name in ALL:
            source = "<div><%s>" % name
            inside = "div" if name in NOT_PUT else "div(%s)" % name
            self.assertEqual(in_body(source), inside, name)

    def test_heads(self):
        for name in ALL:
            expected = name if name in HEADS else ""
            self.assertEqual(in_head("<%s>" % name), expected, name)


class Always(unittest.TestCase):
    def test_html_head_and_body(self):
        for source in ("", " ", "<!x>", "<p", "</p>", "</html>", "<html>", "<head></head>", "<body>", "<tr>"):
            self.assertEqual(outline(source), "html(head body)", source)

    def test_their_depths(self):
        self.assertEqual(nodes(tree_numbers("<!--x--><p>y")), [
            (1, 1, "html", []), (1, 2, "head", []), (3, 3, "x", []),
            (1, 2, "body", []), (1, 3, "p", []), (2, 4, "y", []),
        ])


class Texts(unittest.TestCase):
    def test_text_behind_text_is_one(self):
        self.assertEqual(in_body("a</x>b<!y>c&amp;d<tr>e"), "'abc&de'")

    def test_text_behind_something_else_is_another(self):
        self.assertEqual(in_body("a<br>b<!---->c<i>d</i>e"), "'a' br 'b' #'' 'c' i('d') 'e'")

    def test_text_in_a_frame(self):
        self.assertEqual(in_body("<table> <tr> \n</tr> <!--x--> "), r"table(' ' tbody(tr(' \n') ' ' #'x' ' '))")


class Depth(unittest.TestCase):
    def test_199_and_one_more(self):
        self.assertEqual(depth_of("<div>" * 197, "div"), 199)
        self.assertEqual(depth_of("<div>" * 197 + "<i>", "i"), 0)
        self.assertEqual(depth_of("<div>" * 196 + "<i>", "i"), 199)
        self.assertEqual(depth_of("<div>" * 300, "div"), 199)

    def test_text_and_remarks_are_no_elements(self):
        told = nodes(tree_numbers("<div>" * 197 + "x<!--y-->"))
        self.assertEqual(told[-2:], [(2, 200, "x", []), (3, 200, "y", [])])

    def test_nothing_is_opened_so_an_end_tag_closes_what_is(self):
        source = "<div>" * 198 + "x" + "</div>" + "y"
        told = nodes(tree_numbers(source))
        self.assertEqual(told[-2:], [(2, 200, "x", []), (2, 199, "y", [])])

    def test_void_short_and_raw_ones(self):
        for tag in ("<br>", "<i/>", "<script>x</script>", "<textarea>x</textarea>"):
            source = "<div>" * 197 + tag + "y"
            self.assertEqual(nodes(tree_numbers(source))[-2:], [(1, 199, "div", []), (2, 200, "y", [])], tag)
            source = "<div>" * 196 + tag + "y"
            self.assertEqual(nodes(tree_numbers(source))[-1], (2, 199, "y", []), tag)

    def test_a_raw_ones_text_below_199(self):
        told = nodes(tree_numbers("<div>" * 196 + "<script>x</script>"))
        self.assertEqual(told[-2:], [(1, 199, "script", []), (2, 200, "x", [])])

    def test_what_would_be_closed_is_closed(self):
        source = "<div>" * 195 + "<p><i><p>"
        self.assertEqual(nodes(tree_numbers(source))[-3:], [(1, 198, "p", []), (1, 199, "i", []), (1, 198, "p", [])])
        source = "<div>" * 196 + "<button><button>x"
        self.assertEqual(nodes(tree_numbers(source))[-2:], [(1, 199, "button", []), (2, 200, "x", [])])

    def table(self, depth, inside):
        """What's told behind a table of that depth."""
        told = nodes(tree_numbers("<div>" * (depth - 3) + "<table>" + inside))
        place = [node[2] for node in told].index("table")
        self.assertEqual(told[place][1], depth)
        return [(node[2], node[1]) for node in told[place + 1:]]

    def test_what_is_implied_for_a_cell(self):
        self.assertEqual(self.table(196, "<td>"), [("tbody", 197), ("tr", 198), ("td", 199)])
        self.assertEqual(self.table(197, "<td>"), [])
        self.assertEqual(self.table(198, "<th>"), [])
        self.assertEqual(self.table(197, "<tbody><td>"), [("tbody", 198)])
        self.assertEqual(self.table(197, "<tr><td>"), [("tbody", 198), ("tr", 199)])

    def test_what_is_implied_for_a_row(self):
        self.assertEqual(self.table(197, "<tr>"), [("tbody", 198), ("tr", 199)])
        self.assertEqual(self.table(198, "<tr>"), [])
        self.assertEqual(self.table(198, "<tbody><tr>"), [("tbody", 199)])

    def test_what_is_implied_for_a_column(self):
        self.assertEqual(self.table(197, "<col>"), [("colgroup", 198), ("col", 199)])
        self.assertEqual(self.table(198, "<col>"), [])
        self.assertEqual(self.table(198, "<colgroup><col>"), [("colgroup", 199)])

    def test_parts_that_imply_nothing(self):
        for name in ("caption", "colgroup", "thead", "tbody", "tfoot"):
            self.assertEqual(self.table(198, "<%s>" % name), [(name, 199)])
            self.assertEqual(self.table(199, "<%s>" % name), [])

    def test_what_is_closed_for_a_part_that_is_not_put(self):
        self.assertEqual(self.table(198, "<caption>x<tr> "), [("caption", 199), ("x", 200), (" ", 199)])

    def test_what_is_opened_again(self):
        source = "<div>" * 195 + "<p><b></p><i></div>"
        # p and b are 198 and 199 deep; opened again, b is 198 deep and i 199.
        self.assertEqual(nodes(tree_numbers(source))[-2:], [(1, 198, "b", []), (1, 199, "i", [])])
        told = nodes(tree_numbers("<div>" * 195 + "<p><b></p><div><i>x"))
        self.assertEqual(told[-3:], [(1, 198, "div", []), (1, 199, "b", []), (2, 200, "x", [])])

    def test_what_is_opened_again_too_deep_is_forgotten(self):
        # Within 199 deep nothing can be opened again, and then nothing's remembered.
        source = "<div>" * 195 + "<p><b></p><div><div>x</div>y"
        told = nodes(tree_numbers(source))
        self.assertEqual(told[-3:], [(1, 199, "div", []), (2, 200, "x", []), (2, 199, "y", [])])

    def test_a_wall_that_is_not_opened_forgets_nothing(self):
        source = "<div>" * 195 + "<p><b></p><div><div><table></div></div>x"
        told = nodes(tree_numbers(source))
        self.assertEqual(told[-2:], [(1, 198, "b", []), (2, 199, "x", [])])

    def test_an_end_tag_of_p(self):
        self.assertEqual(depth_of("<div>" * 196 + "</p>", "p"), 199)
        told = nodes(tree_numbers("<div>" * 197 + "</p>x"))
        self.assertEqual(told[-2:], [(1, 199, "div", []), (2, 200, "x", [])])

    def test_a_short_one_at_199_leaves_the_rest_alone(self):
        self.assertEqual(depth_of("<div>" * 196 + "<p/><p/><i>", "i"), 199)


class Remembered(unittest.TestCase):
    def test_closed_with_another_one(self):
        self.assertEqual(in_body("<p><b>x</p>y"), "p(b('x')) b('y')")
        self.assertEqual(in_body("<p><b>x<p>y"), "p(b('x')) p(b('y'))")
        self.assertEqual(in_body("<b><i>x</b>y"), "b(i('x')) i('y')")

    def test_names_and_attributes(self):
        source = "<p><font size=1 color='a'>x</p>y"
        shown = "font{size='1' color='a'}"
        self.assertEqual(in_body(source), "p(%s('x')) %s('y')" % (shown, shown))

    def test_the_outermost_first(self):
        self.assertEqual(in_body("<p><b><i><u>x</p>y"), "p(b(i(u('x')))) b(i(u('y')))")

    def test_behind_what_is_remembered_already(self):
        source = "<div><p><b>x</p><p><i>y</p></div>z"
        # i, put in the second p, opened b again ahead of it.
        self.assertEqual(in_body(source), "div(p(b('x')) p(b(i('y')))) b(i('z'))")
        source = "<b><div><i></div></b>x"
        self.assertEqual(in_body(source), "b(div(i)) i('x')")
        source = "<div><i><div><u></div></div>x"
        self.assertEqual(in_body(source), "div(i(div(u))) u(i('x'))")

    def test_only_styled_ones(self):
        self.assertEqual(in_body("<p><span><b><q><i>x</p>y"), "p(span(b(q(i('x'))))) b(i('y'))")

    def test_not_by_their_own_end_tag(self):
        self.assertEqual(in_body("<b>x</b>y"), "b('x') 'y'")
        self.assertEqual(in_body("<p><b>x</b></p>y"), "p(b('x')) 'y'")

    def test_not_when_a_is_closed_by_a(self):
        self.assertEqual(in_body("<a>x<a>y"), "a('x') a('y')")
        self.assertEqual(in_body("<a>x<a>y</a>z"), "a('x') a('y') 'z'")

    def test_the_same_name_again(self):
        self.assertEqual(in_body("<p><b><b>x</p>y"), "p(b(b('x'))) b(b('y'))")

    def test_opened_again_before_text_that_is_no_blank(self):
        self.assertEqual(in_body("<p><b>x</p> \ty"), r"p(b('x')) ' \t' b('y')")

    def test_not_before_a_block_a_remark_or_an_end_tag(self):
        self.assertEqual(in_body("<p><b>x</p><!--r--></q><div>"), "p(b('x')) #'r' div")

    def test_before_what_is_no_block(self):
        for name in ("br", "img", "span", "i", "label"):
            self.assertEqual(in_body("<p><b>x</p><%s>" % name), "p(b('x')) b(%s)" % name)
        for name in ("script", "style", "title", "textarea"):
            self.assertEqual(in_body("<p><b>x</p><%s></%s>" % (name, name)), "p(b('x')) b(%s)" % name)
        self.assertEqual(in_body("<p><b>x</p><foo/>y"), "p(b('x')) b(foo 'y')")

    def test_nothing_is_remembered_then(self):
        self.assertEqual(in_body("<p><b>x</p>y</b>z"), "p(b('x')) b('y') 'z'")

    def test_the_8th_and_9th(self):
        names = ["b", "i", "u", "s", "tt", "em", "big", "code"]
        opened = "".join("<%s>" % name for name in names)
        inner = "(".join(names)
        close = ")" * 8
        self.assertEqual(in_body("<p>" + opened + "</p>x"), "p(%s%s %s('x'%s" % (inner, close, inner, close))
        self.assertEqual(in_body("<p><strong>" + opened + "</p>x"),
                         "p(strong(%s%s) %s('x'%s" % (inner, close, inner, close))

    def test_the_last_8_also_of_those_remembered_one_behind_another(self):
        source = "<div><i><div>" + "<u>" * 8 + "</div></div>x"
        # The eight u come first, then i: of the nine the first u is forgotten.
        self.assertTrue(in_body(source).endswith(" " + "u(" * 7 + "i('x'" + ")" * 8))
        source = "<div><i><s><div>" + "<u>" * 6 + "</div></div>x"
        self.assertTrue(in_body(source).endswith(" " + "u(" * 6 + "i(s('x'" + ")" * 8))
        source = "<div><i><s><div>" + "<u>" * 7 + "</div></div>x"
        self.assertTrue(in_body(source).endswith(" " + "u(" * 6 + "i(s('x'" + ")" * 8))

    def test_nothing_is_remembered_when_a_wall_is_opened(self):
        self.assertEqual(in_body("<p><b>x</p><table><td>y</table>z"), "p(b('x')) table(tbody(tr(td('y')))) 'z'")
        self.assertEqual(in_body("<p><b></p><table></table>z"), "p(b) table 'z'")

    def test_a_short_wall_is_not_opened(self):
        self.assertEqual(in_body("<p><b>x</p><table/>y"), "p(b('x')) table b('y')")

    def test_nothing_is_remembered_when_a_wall_is_closed(self):
        self.assertEqual(in_body("<button><b>x</button>y"), "button(b('x')) 'y'")
        self.assertEqual(in_body("<button><p><b>x</p></button>y"), "button(p(b('x'))) 'y'")
        self.assertEqual(in_body("<table><td><b>x</table>y"), "table(tbody(tr(td(b('x'))))) 'y'")
        self.assertEqual(in_body("<table><td><b>x</td><td>y"), "table(tbody(tr(td(b('x')) td('y'))))")
        self.assertEqual(in_body("<table><td><b>x</tr><tr><td>y"), "table(tbody(tr(td(b('x'))) tr(td('y'))))")

    def test_a_button_is_opened_within_what_is_opened_again(self):
        self.assertEqual(in_body("<p><b>x</p><button>y"), "p(b('x')) b(button('y'))")

    def test_within_a_wall(self):
        self.assertEqual(in_body("<button><p><b>x</p>y</button>z"), "button(p(b('x')) b('y')) 'z'")


if __name__ == "__main__":
    unittest.main()
