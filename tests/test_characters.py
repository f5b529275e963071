"""Point 1: bytes, characters, line ends and spaces."""

from tests.helper import FormTest

RANGES = ((9, 10), (13, 13), (0x20, 0xD7FF), (0xE000, 0xFFFD), (0x10000, 0x10FFFF))
EDGES = sorted({edge + step for pair in RANGES for edge in pair for step in (-1, 0, 1)})


def is_character(number):
    return any(first <= number <= last for first, last in RANGES)


def raw_bytes(number):
    """UTF-8's bytes of any number, of those too that are no character."""
    if number < 0x80:
        return bytes([number])
    if number < 0x800:
        return bytes([0xC0 + number // 64, 0x80 + number % 64])
    if number < 0x10000:
        return bytes([0xE0 + number // 4096, 0x80 + number // 64 % 64, 0x80 + number % 64])
    return bytes([0xF0 + number // 262144, 0x80 + number // 4096 % 64, 0x80 + number // 64 % 64, 0x80 + number % 64])


class CharactersInUtf8(FormTest):
    def test_edges_of_each_range_in_content(self):
        for number in EDGES:
            text = b"<a>" + raw_bytes(number) + b"</a>"
            if is_character(number):
                self.assert_told(text, b"<a>\n</a>" if number == 13 else text)
            else:
                self.assert_no_document(text)

    def test_edges_of_each_length(self):
        for number in (0x7F, 0x80, 0x7FF, 0x800, 0xFFFD, 0x10000, 0x3FFFF, 0x40000, 0xFFFFF, 0x100000):
            text = b"<a>" + raw_bytes(number) + b"</a>"
            self.assert_told(text, text)

    def test_controls_and_the_far_ends_are_no_characters(self):
        for number in (0, 1, 8, 11, 12, 14, 31, 0xD800, 0xDBFF, 0xDC00, 0xDFFF, 0xFFFE, 0xFFFF, 0x110000, 0x1FFFFF):
            self.assert_no_document(b"<a>" + raw_bytes(number) + b"</a>")

    def test_odd_characters_are_characters_too(self):
        for number in (0x7F, 0x84, 0x85, 0x9F, 0xFDD0, 0x1FFFE, 0x1FFFF, 0x10FFFE):
            text = b"<a>" + raw_bytes(number) + b"</a>"
            self.assert_told(text, text)

    def test_what_is_no_character_is_one_nowhere(self):
        for place in (b"<!--%s--><a/>", b"<?p %s?><a/>", b"<a b='%s'/>", b"<a><![CDATA[%s]]></a>", b"<a/>%s"):
            self.assert_no_document(place % b"\x00")
            self.assert_no_document(place % b"\xff")
            self.assert_no_document(place % b"\xed\xa0\x80")


class Utf8ThatIsNone(FormTest):
    def assert_none(self, *groups):
        for group in groups:
            self.assert_no_document(b"<a>" + group + b"</a>")

    def test_not_in_the_shortest_form(self):
        self.assert_none(b"\xc0\x80", b"\xc1\x81", b"\xc1\xbf")
        self.assert_none(b"\xe0\x80\x80", b"\xe0\x81\x81", b"\xe0\x9f\xbf")
        self.assert_none(b"\xf0\x80\x80\x80", b"\xf0\x80\x81\x81", b"\xf0\x8f\xbf\xbd")

    def test_five_and_six_bytes(self):
        self.assert_none(b"\xf8\x88\x80\x80\x80", b"\xfc\x84\x80\x80\x80\x80", b"\xfe", b"\xff")
        self.assert_none(b"\xf8\x80\x80\x81\x81", b"\xfc\x80\x80\x80\x81\x81")

    def test_cut_short_before_another_character(self):
        self.assert_none(b"\xc3", b"\xe2\x82", b"\xe2", b"\xf0\x90\x80", b"\xf0\x90", b"\xf0")

    def test_cut_short_at_the_end_of_the_text(self):
        for group in (b"\xc3", b"\xe2", b"\xe2\x82", b"\xf0", b"\xf0\x90", b"\xf0\x90\x80"):
            self.assert_no_document(b"<a/><!--" + group)
            self.assert_no_document(b"<a/>" + group)

    def test_a_byte_from_within_alone(self):
        self.assert_none(b"\x80", b"\xbf", b"\xc3\xa9\xa9", b"x\x80")

    def test_a_byte_behind_the_first_out_of_its_range(self):
        self.assert_none(b"\xc3\x7f", b"\xc3\xc0", b"\xe2\x7f\xac", b"\xe2\x82\xc0", b"\xe2\xc2\xac")
        self.assert_none(b"\xf0\x90\x80\x7f", b"\xf0\x90\xc0\x80", b"\xf0\xd0\x80\x80")

    def test_a_mark_of_byte_order_is_a_character_and_no_space(self):
        self.assert_no_document(b"\xef\xbb\xbf<a/>")
        self.assert_told(b"<a>\xef\xbb\xbf</a>", b"<a>\xef\xbb\xbf</a>")

    def test_other_encodings(self):
        self.assert_no_document("<a/>".encode("utf-16"))
        self.assert_no_document("<a>\u00e9</a>".encode("latin-1"))


class LineEnds(FormTest):
    def test_each_becomes_one_10(self):
        self.assert_told("<a>1\r\n2\r3\n4</a>", "<a>1\n2\n3\n4</a>")

    def test_rows_of_them(self):
        self.assert_told("<a>\r\r</a>", "<a>\n\n</a>")
        self.assert_told("<a>\r\r\n</a>", "<a>\n\n</a>")
        self.assert_told("<a>\r\n\r\n</a>", "<a>\n\n</a>")
        self.assert_told("<a>\r\n\n</a>", "<a>\n\n</a>")
        self.assert_told("<a>\n\r</a>", "<a>\n\n</a>")
        self.assert_told("<a>\n\n</a>", "<a>\n\n</a>")

    def test_before_anything_else(self):
        self.assert_told("<a><![CDATA[1\r\n2\r3]]></a>", "<a>1\n2\n3</a>")
        self.assert_told("<a><?p 1\r\n2\r3?></a>", "<a><?p 1\n2\n3?></a>")
        self.assert_told("<a b='1\r\n2\r3\n4'/>", '<a b="1 2 3 4"></a>')

    def test_where_spaces_stand(self):
        self.assert_told("\r\n<a\rb\r=\r\n'1'\r>\r</a\r>\r", '<a b="1">\n</a>')
        self.assert_told("\r<a/>", "<a></a>")
        self.assert_told("\n<a/>", "<a></a>")
        self.assert_told("<a/>\r", "<a></a>")

    def test_a_reference_to_13_is_no_line_end(self):
        self.assert_told("<a>&#13;\n&#13;&#10;\r&#10;</a>", "<a>&#xD;\n&#xD;\n\n\n</a>")


class Spaces(FormTest):
    def test_32_9_and_10(self):
        self.assert_told(" \t\n<a \t\nb \t\n= \t\n'1' \t\n></a \t\n> \t\n", '<a b="1"></a>')

    def test_no_other_character_is_one(self):
        for other in ("\u000b", "\u000c", "\u0085", "\u00a0", "\u2003", "\u2028", "\u3000", "\ufeff", "2"):
            self.assert_no_document(other + "<a/>")
            self.assert_no_document("<a/>" + other)
            self.assert_no_document("<a" + other + "='1'/>")
            self.assert_no_document("<a b" + other + "='1'" + other + "/>")


class CharactersInReferences(FormTest):
    def test_edges_of_each_range(self):
        for number in [edge for edge in EDGES if edge >= 0]:
            told = b"&#xD;" if number == 13 else raw_bytes(number)
            for reference in (f"&#{number};", f"&#x{number:x};", f"&#x{number:X};"):
                if is_character(number):
                    self.assert_told(f"<a>{reference}</a>", b"<a>" + told + b"</a>")
                else:
                    self.assert_no_document(f"<a>{reference}</a>")
                    self.assert_no_document(f"<a b='{reference}'/>")
