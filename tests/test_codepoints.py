"""DOC.md, "Code points"."""

import unittest

from tests.helper import each, feed, in_body, nodes, tree_numbers


def text_of(source):
    """The code points of the text behind an x, which makes body begin."""
    told = nodes(tree_numbers([120] + list(source)))
    return [ord(sign) for sign in told[3][2]][1:]


class Utf8(unittest.TestCase):
    def check(self, source, points):
        self.assertEqual(text_of(source), points, bytes(source))

    def test_right_sequences(self):
        for point in (1, 65, 127, 128, 233, 2047, 2048, 8364, 55295, 57344, 65533, 65535, 65536, 128512, 1114111):
            self.check(chr(point).encode("utf-8"), [point])

    def test_right_sequences_one_behind_another(self):
        self.check("aé€😀z".encode("utf-8"), [97, 233, 8364, 128512, 122])

    def test_a_byte_that_begins_nothing(self):
        for byte in (128, 191, 248, 251, 252, 254, 255):
            self.check([byte], [65533])
            self.check([byte, 65], [65533, 65])

    def test_overlong(self):
        self.check([192, 128], [65533] * 2)
        self.check([193, 191], [65533] * 2)
        self.check([194, 128], [128])
        self.check([224, 159, 191], [65533] * 3)
        self.check([224, 160, 128], [2048])
        self.check([240, 143, 191, 191], [65533] * 4)
        self.check([240, 144, 128, 128], [65536])

    def test_overlong_of_a_plain_letter(self):
        self.check([193, 129], [65533] * 2)
        self.check([192, 188], [65533] * 2)

    def test_surrogates(self):
        self.check([237, 159, 191], [55295])
        self.check([237, 160, 128], [65533] * 3)
        self.check([237, 191, 191], [65533] * 3)
        self.check([238, 128, 128], [57344])

    def test_beyond_the_last(self):
        self.check([244, 143, 191, 191], [1114111])
        self.check([244, 144, 128, 128], [65533] * 4)
        self.check([245, 128, 128, 128], [65533] * 4)
        self.check([247, 191, 191, 191], [65533] * 4)

    def test_cut_by_another_byte(self):
        self.check([195, 65], [65533, 65])
        self.check([226, 130, 65], [65533, 65533, 65])
        self.check([226, 65, 130], [65533, 65, 65533])
        self.check([240, 159, 152, 65], [65533, 65533, 65533, 65])
        self.check([226, 195, 169], [65533, 233])
        self.check([195, 192], [65533, 65533])

    def test_cut_by_the_end(self):
        self.check([195], [65533])
        self.check([226, 130], [65533] * 2)
        self.check([240, 159, 152], [65533] * 3)

    def test_cut_by_the_end_and_made_whole_by_the_next_feed(self):
        parts = each(feed([120, 226, 130]) + [2] + feed([172]) + [2])
        self.assertEqual(nodes(parts[1])[3][2], "x\ufffd\ufffd")
        self.assertEqual(nodes(parts[3])[3][2], "x\u20ac")

    def test_a_broken_lead_does_not_eat_a_tag(self):
        self.assertEqual(in_body([120, 195] + list(b"<b>y")), r"'x\ufffd' b('y')")


class LineEnds(unittest.TestCase):
    def test_13_and_10(self):
        self.assertEqual(text_of([13, 10]), [10])
        self.assertEqual(text_of([13]), [10])
        self.assertEqual(text_of([10]), [10])
        self.assertEqual(text_of([13, 13]), [10, 10])
        self.assertEqual(text_of([10, 13]), [10, 10])
        self.assertEqual(text_of([13, 13, 10, 10]), [10, 10, 10])
        self.assertEqual(text_of([13, 65, 10]), [10, 65, 10])
        self.assertEqual(text_of([13, 255, 10]), [10, 65533, 10])

    def test_0(self):
        self.assertEqual(text_of([0]), [65533])
        self.assertEqual(text_of([13, 0, 10]), [10, 65533, 10])

    def test_where_two_feeds_meet(self):
        parts = each(feed([120, 13]) + [2] + feed([10]) + [2] + feed([10, 0]) + feed([13]) + [2])
        self.assertEqual(nodes(parts[1])[3][2], "x\n")
        self.assertEqual(nodes(parts[3])[3][2], "x\n")
        self.assertEqual(nodes(parts[6])[3][2], "x\n\n\ufffd\n")

    def test_in_values_and_remarks_and_raw_text(self):
        self.assertEqual(in_body("x<i a='\r\n\r\0'>"), r"'x' i{a='\n\n\ufffd'}")
        self.assertEqual(in_body("x<!--\r\n\0-->"), r"'x' #'\n\ufffd'")
        self.assertEqual(in_body("x<script>\r\n\0</script>"), r"'x' script('\n\ufffd')")

    def test_0_in_a_name(self):
        self.assertEqual(in_body([60, 98, 0, 62]), "b\ufffd")


class Sorts(unittest.TestCase):
    def test_blanks_before_body_are_9_10_12_32_and_13_read_as_10(self):
        self.assertEqual(in_body([9, 10, 12, 32, 13, 65]), "'A'")

    def test_no_other_is_a_blank(self):
        for point in (1, 8, 11, 14, 31, 33, 127, 133, 160, 8195, 12288):
            self.assertEqual(in_body(chr(point)), ascii(chr(point)))

    def test_blanks_part_attributes_and_others_do_not(self):
        self.assertEqual(in_body("<i a\tb\nc\fd e>"), "i{a='' b='' c='' d='' e=''}")
        self.assertEqual(in_body("<i a\vb\u00a0c>"), "i{a\vb\u00a0c=''}")

    def test_letters_are_ascii_letters(self):
        for letter in "azAZ":
            self.assertEqual(in_body("<" + letter + ">"), letter.lower())
        for sign in "@[`{09 _-:é":
            self.assertEqual(in_body("x<" + sign), ascii("x<" + sign))

    def test_small_is_of_ascii_letters_alone(self):
        self.assertEqual(in_body("<AZaz@[`{É>"), "azaz@[`{É")
        self.assertEqual(in_body("<i AZaz@[É>"), "i{azaz@[É=''}")


if __name__ == "__main__":
    unittest.main()
