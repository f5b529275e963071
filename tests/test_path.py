"""Point 11: which bytes are a path, and which aren't (-1)."""

from oneform.characters import NAME_BEGINNINGS, NAME_OTHERS
from tests.helper import PartTest, answered_part, octets

TEXT = "<a b='1'>2<c d='3'>4</c></a>"


class PathTest(PartTest):
    def assert_no_path(self, *paths):
        for path in paths:
            self.assert_refused(TEXT, path, -1)


class Paths(PartTest):
    def test_a_name_alone(self):
        self.assert_part(TEXT, "a", "24")
        self.assert_part("<long.name-1:_>x</long.name-1:_>", "long.name-1:_", "x")
        self.assert_part("<_/>", "_", "")
        self.assert_part("<:/>", ":", "")

    def test_names_with_and_without_numbers(self):
        for path in ("a", "a[1]"):
            self.assert_part(TEXT, path, "24")
            for inner in ("c", "c[1]"):
                self.assert_part(TEXT, f"{path}/{inner}", "4")
                self.assert_part(TEXT, f"{path}/{inner}/@d", "3")
            self.assert_part(TEXT, f"{path}/@b", "1")

    def test_numbers(self):
        for number in (2, 9, 10, 11, 100, 9999, 10000, 10203, 90000, 99999):
            self.assert_refused(TEXT, f"a[{number}]", -5)
            self.assert_refused(TEXT, f"a/c[{number}]", -5)
            self.assert_refused(TEXT, f"a/c[{number}]/@d", -5)

    def test_names_beyond_ascii(self):
        text = (
            "<\u00e9 \u0416='1'><\u4e2d\u00b7>2</\u4e2d\u00b7>"
            "<\U00010000\u0300 \U000effff='3'>4</\U00010000\u0300></\u00e9>"
        )
        self.assert_part(text, "\u00e9", "24")
        self.assert_part(text, "\u00e9[1]/@\u0416", "1")
        self.assert_part(text, "\u00e9/\u4e2d\u00b7", "2")
        self.assert_part(text, "\u00e9/\U00010000\u0300[1]", "4")
        self.assert_part(text, "\u00e9/\U00010000\u0300/@\U000effff", "3")

    def test_each_range_of_names(self):
        for first, last in NAME_BEGINNINGS:
            for name in (chr(first), chr(last), chr(first) + chr(last)):
                self.assert_part(f"<{name} {name}='1'>2</{name}>", name, "2")
                self.assert_part(f"<{name} {name}='1'>2</{name}>", f"{name}/@{name}", "1")
        for first, last in NAME_OTHERS:
            for name in ("a" + chr(first), "a" + chr(last)):
                self.assert_part(f"<{name} {name}='1'>2</{name}>", name, "2")
                self.assert_part(f"<{name} {name}='1'>2</{name}>", f"{name}/@{name}", "1")

    def test_names_that_are_marks_elsewhere(self):
        self.assert_part("<xml xml='1'>2</xml>", "xml", "2")
        self.assert_part("<xml xml='1'>2</xml>", "xml/@xml", "1")
        self.assert_part("<amp>2</amp>", "amp", "2")

    def test_many_steps(self):
        self.assert_refused(TEXT, "/".join("a" * 128), -5)
        self.assert_refused(TEXT, "/".join("a" * 127) + "/@b", -5)


class NoPaths(PathTest):
    def test_empty(self):
        self.assert_no_path("")

    def test_beginning_or_ending_with_a_stroke(self):
        self.assert_no_path("/", "/a", "/a/c", "/a/@b", "a/", "a/c/", "a[1]/", "a/@b/", "/a/")

    def test_two_strokes_in_a_row(self):
        self.assert_no_path("//", "//a", "a//", "a//c", "a//@b", "a/c//@d", "a[1]//c")

    def test_a_step_that_is_no_name(self):
        self.assert_no_path("1", "-a", ".", "..", "*", "a/.", "a/..", "a/*", "a/1", "1/c", "a/-c", "./a", "a/./c")
        self.assert_no_path("[1]", "a/[1]", "a/c/[1]", "[1]/c", "\u00b7", "\u0300a", "a/\u203f", "\u00d7", "a/\u00f7c")
        self.assert_no_path("text()", "a/text()", "<a", "&a", "a;", "a=b", "'a'", '"a"', "a,c", "a|c", "\\a", "a\\c")

    def test_spaces(self):
        for space in (" ", "\t", "\n", "\r", "\r\n", "\u00a0"):
            self.assert_no_path(space, space + "a", "a" + space, f"a{space}/c", f"a/{space}c", f"a{space}[1]")
            self.assert_no_path(f"a[{space}1]", f"a[1{space}]", f"a[1]{space}", f"a[1]{space}/c", f"a[1{space}0]")
            self.assert_no_path(f"a/{space}@b", f"a/@{space}b", f"a/@b{space}", f"a{space}c")

    def test_a_zero_in_front(self):
        self.assert_no_path("a[0]", "a[00]", "a[01]", "a[001]", "a[00001]", "a[000001]", "a[099999]", "a[010]")
        self.assert_no_path("a/c[0]", "a/c[01]", "a[0]/c", "a[01]/c", "a/c[0]/@d", "a/c[01]/@d")

    def test_more_than_99999(self):
        self.assert_no_path("a[100000]", "a[100001]", "a[111111]", "a[999999]", "a[4294967297]", "a/c[100000]")
        self.assert_no_path("a[100000]/c", "a/c[100000]/@d", "a[" + "1" * 253 + "]", "a[" + "0" * 252 + "1]")

    def test_what_is_no_number(self):
        self.assert_no_path("a[]", "a[ ]", "a[x]", "a[1x]", "a[x1]", "a[-1]", "a[+1]", "a[1.]", "a[1.0]", "a[1,2]")
        self.assert_no_path("a[0x1]", "a[1e1]", "a[1_0]", "a['1']", "a[last()]", "a[@b]", "a[c]", "a[/]", "a[:]")
        self.assert_no_path("a/c[]", "a[]/c", "a[\u0661]", "a[\u00b2]", "a[\uff11]", "a[1\u0661]")

    def test_an_open_bracket(self):
        self.assert_no_path("a[", "a[1", "a[12345", "a/c[", "a/c[1", "a[/c]", "a[1/c", "a[1/c]", "a[1/@b", "[", "a[[1]")

    def test_a_bracket_that_only_ends(self):
        self.assert_no_path("]", "a]", "a1]", "a/c]", "a/]", "a][1", "a[1]]")

    def test_something_behind_a_bracket(self):
        self.assert_no_path("a[1]a", "a[1]1", "a[1][1]", "a[1][", "a[1]@b", "a[1].", "a[1]-", "a/c[1]c", "a[1]c/c")

    def test_an_attribute_without_a_name(self):
        self.assert_no_path("a/@", "a/c/@", "a[1]/@", "a/@/", "a/@1", "a/@-b", "a/@*", "a/@[1]", "a/@@b", "a/@@")

    def test_something_behind_an_attribute(self):
        self.assert_no_path("a/@b/", "a/@b/c", "a/@b/@b", "a/@b[1]", "a/@b[", "a/@b@", "a/@b@b", "a/@b=", "a/@b/c/@d")
        self.assert_no_path("a/@b='1'", "a/@b//", "a/@b]")

    def test_an_attribute_with_nothing_before_it(self):
        self.assert_no_path("@", "@b", "/@b", "/@", "@/b", "@b/c", "@b[1]")

    def test_an_at_without_a_stroke(self):
        self.assert_no_path("a@", "a@b", "a/c@d", "a[1]@b", "a@/b")

    def test_names_end_at_what_is_in_none(self):
        self.assert_no_path("a!", "a#", "a$", "a(", "a)", "a+", "a?", "a^", "a`", "a{", "a}", "a~", "a%", "a\u037e")


class Bytes(PathTest):
    def test_what_is_no_utf_8(self):
        for wrong in (b"\x80", b"\xbf", b"\xc3", b"\xc3a", b"\xe4\xb8", b"\xe4\xb8a", b"\xf0\x90\x80", b"\xff", b"\xfe",
                      b"\xf8\x88\x80\x80\x80", b"\xc3\xa9\xa9"):
            self.assert_no_path(wrong, b"a" + wrong, b"a/" + wrong, b"a/@" + wrong, b"a[1]" + wrong)
            self.assert_no_path(b"a[" + wrong + b"]", b"a/@b" + wrong)

    def test_what_is_not_the_shortest_form(self):
        # These would be a in two, three and four bytes, then /, [ and 1 in two, and others that need fewer.
        self.assert_no_path(b"\xc1\xa1", b"\xe0\x81\xa1", b"\xf0\x80\x81\xa1", b"a\xc0\xafc", b"a\xc1\x9b1]")
        self.assert_no_path(b"a[\xc0\xb1]", b"a/\xc1\x80b", b"\xe0\x83\xa9", b"\xf0\x84\xb8\xad", b"a\xe0\x83\xa9")

    def test_what_is_no_character(self):
        for wrong in (b"\x00", b"\x01", b"\x08", b"\x0b", b"\x1f", b"\xed\xa0\x80", b"\xed\xbf\xbf", b"\xef\xbf\xbe",
                      b"\xef\xbf\xbf", b"\xf4\x90\x80\x80", b"\xf7\xbf\xbf\xbf"):
            self.assert_no_path(wrong, b"a" + wrong, b"a/" + wrong, b"a/@" + wrong, b"a/@b" + wrong)
            self.assert_no_path(b"a[1" + wrong + b"]", b"a[1]" + wrong)

    def test_characters_that_are_in_no_name(self):
        self.assert_no_path("\U000f0000", "a\U0010ffff", "\ue000", "a/\ufdd0", "a/c\ufdef", "a/@\uf8ff", "a/@b\u2fff")

    def test_each_byte_alone(self):
        for byte in range(256):
            beginning = byte in octets(":_ABCDEFGHIJKLMNOPQRSTUVWXYZabcdefghijklmnopqrstuvwxyz")
            expected = (b"24" if byte == ord("a") else -5) if beginning else -1
            with self.subTest(byte=byte):
                self.assertEqual(answered_part(TEXT, bytes([byte])), expected)


class Lengths(PathTest):
    def test_256_bytes_that_are_a_path(self):
        name = "a" * 256
        self.assert_part(f"<{name}>x</{name}>", name, "x")
        self.assert_refused(f"<{name}b>x</{name}b>", name, -5)
        self.assert_refused(f"<{name[1:]}>x</{name[1:]}>", name, -5)
        name = "b" + "\u4e2d" * 84
        self.assertEqual(len(octets(f"{name}[1]")), 256)
        self.assert_part(f"<{name}>x</{name}>", f"{name}[1]", "x")
        name = "b" * 253
        self.assert_part(f"<a {name}='1'/>", f"a/@{name}", "1")

    def test_256_bytes_that_are_none(self):
        self.assert_no_path("a" * 255 + "/", "/" * 256, "a/" * 128, "a" * 254 + "[1", "a" * 253 + "[0]")
        self.assert_no_path(b"a" * 255 + b"\xc3", "\u4e2d" * 85 + "/", "a" * 254 + "/@")
