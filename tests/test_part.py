"""Points 8 and 11: which part a path leads to, what it tells, and which refusal comes first."""

import itertools

from oneform.elementss import part
from tests.helper import PLENTY, PartTest, nested, octets

NO_DOCUMENTS = (
    "", "x", "<a>", "<a></b>", "<a/><a/>", "<a>&x;</a>", "<!DOCTYPE a><a/>", "<a>]]></a>", "<a b='1' b='2'/>",
    b"<a>\xff</a>", b"<a>\xc1\xa1</a>", " <?xml version='1.0'?><a/>", "<a><!-- -- --></a>", "<a b='<'/>", "<a>&#0;</a>",
)
NO_PATHS = (
    "", "/", "a/", "/a", "a//a", "a[0]", "a[01]", "a[100000]", "a[", "a[]", "a[1]a", "a/@", "a/@b/", "@b", "a b", "1",
    b"\xff", b"\xc1\xa1",
)


class Elements(PartTest):
    def test_the_root(self):
        self.assert_part("<a>1</a>", "a", "1")
        self.assert_part("<a>1</a>", "a[1]", "1")
        self.assert_part("<a/>", "a", "")
        self.assert_part("<a></a>", "a[1]", "")

    def test_what_stands_outside_the_root(self):
        text = "<?xml version='1.0'?>\n<!--<a>0</a>--><?a 0?> <a>1</a> <?a 0?><!--<a>0</a>-->\n"
        self.assert_part(text, "a", "1")
        self.assert_refused(text, "a[2]", -5)
        self.assert_refused(text, "xml", -5)

    def test_one_directly_in_the_one_before(self):
        text = "<a>1<b>2<c>3<d>4</d></c></b></a>"
        for path, told in (("a", "1234"), ("a/b", "234"), ("a/b/c", "34"), ("a/b/c/d", "4"), ("a[1]/b/c[1]/d", "4")):
            self.assert_part(text, path, told)

    def test_the_k_th_of_a_name(self):
        text = "<a><b>1</b><b>2</b><b>3</b></a>"
        for number in (1, 2, 3):
            self.assert_part(text, f"a/b[{number}]", str(number))
        self.assert_part(text, "a/b", "1")

    def test_the_k_th_among_others(self):
        text = (
            "<a>0<c>0</c><b>1</b><!--<b>0</b>-->x<B>0</B><?b 0?><bb>0</bb><b>2</b>\n<![CDATA[<b>0</b>]]><c><b>0</b></c>"
            "&lt;b>0&lt;/b><b/><x:b>0</x:b><c>c</c><b>4</b></a>"
        )
        for number, told in ((1, "1"), (2, "2"), (3, ""), (4, "4")):
            self.assert_part(text, f"a/b[{number}]", told)
        self.assert_part(text, "a/b", "1")
        self.assert_part(text, "a/c[3]", "c")
        self.assert_part(text, "a/c[2]/b", "0")
        self.assert_part(text, "a/bb", "0")
        self.assert_part(text, "a/x:b", "0")
        self.assert_refused(text, "a/b[5]", -5)
        self.assert_refused(text, "a/c/b", -5)

    def test_no_number_is_the_first_and_no_other(self):
        text = "<a><b><c>1</c></b><b><d>2</d></b></a>"
        self.assert_part(text, "a/b/c", "1")
        self.assert_refused(text, "a/b/d", -5)
        self.assert_part(text, "a/b[2]/d", "2")
        self.assert_refused(text, "a/b[2]/c", -5)
        self.assert_refused(text, "a/b/@c", -5)

    def test_each_step_counts_in_its_own_element(self):
        text = "<a><b>1<c>2</c><c>3</c></b><b>4<c>5</c><c>6</c></b></a>"
        for path, told in (
            ("a/b/c", "2"), ("a/b/c[2]", "3"), ("a/b[2]/c", "5"), ("a/b[2]/c[1]", "5"), ("a/b[2]/c[2]", "6"),
            ("a/b[1]", "123"), ("a/b[2]", "456"),
        ):
            self.assert_part(text, path, told)
        for path in ("a/b/c[3]", "a/b[2]/c[3]", "a/b[3]", "a/b[3]/c"):
            self.assert_refused(text, path, -5)

    def test_one_of_the_same_name_within(self):
        text = "<a>1<a>2<a>3</a></a><a>4</a></a>"
        for path, told in (
            ("a", "1234"), ("a/a", "23"), ("a/a[1]/a", "3"), ("a/a[2]", "4"), ("a[1]/a[1]/a[1]", "3"),
        ):
            self.assert_part(text, path, told)
        for path in ("a[2]", "a/a[3]", "a/a/a[2]", "a/a[2]/a", "a/a/a/a"):
            self.assert_refused(text, path, -5)

    def test_elements_further_within_are_not_counted(self):
        text = "<a><c><b>1</b><b>2</b></c><b>3<b>4</b></b><b>5</b></a>"
        for path, told in (("a/b", "34"), ("a/b[1]", "34"), ("a/b[2]", "5"), ("a/b/b", "4"), ("a/c/b[2]", "2")):
            self.assert_part(text, path, told)
        self.assert_refused(text, "a/b[3]", -5)

    def test_empty_elements_in_both_ways(self):
        text = "<a><b/><b></b><b c='1'/><b ></b ><b>5</b></a>"
        for number in (1, 2, 3, 4):
            self.assert_part(text, f"a/b[{number}]", "")
        self.assert_part(text, "a/b[5]", "5")
        self.assert_part(text, "a/b[3]/@c", "1")

    def test_a_large_number(self):
        text = "<a>" + "<b/>" * 2043 + "<b>x</b></a>"
        self.assertLessEqual(len(text), 8192)
        self.assert_part(text, "a/b[2044]", "x")
        self.assert_part(text, "a/b[2043]", "")
        self.assert_refused(text, "a/b[2045]", -5)
        self.assert_refused(text, "a/b[99999]", -5)

    def test_numbers_are_decimal(self):
        text = "<a>" + "".join(f"<b>{number}</b>" for number in range(1, 400)) + "</a>"
        for number in (1, 2, 9, 10, 11, 12, 21, 99, 100, 101, 110, 210, 399):
            self.assert_part(text, f"a/b[{number}]", str(number))


class NoSuchPart(PartTest):
    TEXT = "<a b='1'>2<c d='3' e='4'><f>5</f></c><c g='6'/></a>"

    def assert_none(self, *paths):
        for path in paths:
            self.assert_refused(self.TEXT, path, -5)

    def test_another_root(self):
        self.assert_none("b", "A", "aa", "c", "f", "a:a", "\u00e1", "x/c", "c/f", "c/@d", "b/@b", "ab", "a.")

    def test_another_number_at_the_root(self):
        self.assert_none("a[2]", "a[99999]", "a[2]/c", "a[2]/@b", "a[2]/c/@d")

    def test_too_few_of_that_name(self):
        self.assert_none("a/c[3]", "a/c[99999]", "a/c/f[2]", "a/c[2]/f", "a/c[3]/@d", "a/c[3]/f")

    def test_an_element_that_is_not_directly_there(self):
        self.assert_none("a/f", "a/a", "a/a/c", "a/c/c", "a/c/a", "a/c/f/f", "a/c/f/c", "a/b", "a/c/d", "a/g", "f/c/a")

    def test_an_attribute_that_is_not_there(self):
        self.assert_none("a/@a", "a/@c", "a/@d", "a/@B", "a/@bb", "a/c/@b", "a/c/@g", "a/c[2]/@d", "a/c/f/@d")

    def test_an_attribute_of_an_element_that_is_not_there(self):
        self.assert_none("x/@b", "a/x/@b", "a/c[3]/@g", "a/f/@d")

    def test_another_writing_of_the_same_sign(self):
        self.assert_refused("<\u00e9/>", "e\u0301", -5)
        self.assert_refused("<e\u0301/>", "\u00e9", -5)
        self.assert_refused("<a \u00e9='1'/>", "a/@e\u0301", -5)

    def test_instructions_and_comments_are_no_elements(self):
        for text in ("<a><?b c?></a>", "<a><!--<b/>--></a>", "<a><![CDATA[<b/>]]></a>", "<a b='&lt;b/>'>&lt;b/></a>"):
            self.assert_refused(text, "a/b", -5)
        self.assert_refused("<a><?b c='1'?></a>", "a/@c", -5)


class ElementCharacters(PartTest):
    def test_its_own_and_those_within_in_their_order(self):
        text = "<a>1<b>2<c>3</c>4<c/>5</b>6<b><c>7</c></b><d/>8</a>"
        for path, told in (("a", "12345678"), ("a/b", "2345"), ("a/b/c", "3"), ("a/b[2]", "7"), ("a/d", "")):
            self.assert_part(text, path, told)

    def test_none_from_before_or_behind_it(self):
        text = "<a>before<b>1</b>behind<b>2</b>end</a>"
        self.assert_part(text, "a/b", "1")
        self.assert_part(text, "a/b[2]", "2")

    def test_spaces(self):
        self.assert_part("<a> \t\n<b>  </b>\n</a>", "a", " \t\n  \n")
        self.assert_part("<a> 1  2 </a>", "a", " 1  2 ")
        self.assert_part("<a >1</a >", "a", "1")

    def test_cdata(self):
        self.assert_part("<a><![CDATA[<b>&amp;]]>]]&gt;<![CDATA[]]><![CDATA[]]]]></a>", "a", "<b>&amp;]]>]]")
        self.assert_part("<a>1<b>2<![CDATA[3]]>4</b><![CDATA[5]]></a>", "a", "12345")
        self.assert_part("<a><![CDATA[\r\n\r\t]]></a>", "a", "\n\n\t")

    def test_references(self):
        self.assert_part("<a>&amp;&lt;&gt;&quot;&apos;</a>", "a", "&<>\"'")
        self.assert_part("<a>&#65;&#x42;&#x20aC;&#x10FFFF;</a>", "a", "AB\u20ac\U0010ffff")
        self.assert_part("<a>&amp;lt;&#38;amp;</a>", "a", "&lt;&amp;")

    def test_9_10_and_13_by_references(self):
        self.assert_part("<a>&#9;&#10;&#13;</a>", "a", "\t\n\r")
        self.assert_part("<a>&#xD;&#xA;</a>", "a", "\r\n")
        self.assert_part("<a>&#13;\n&#13;\r\n</a>", "a", "\r\n\r\n")

    def test_line_ends(self):
        self.assert_part("<a>1\r\n2\r3\n4\n\r5\r\r\n</a>", "a", "1\n2\n3\n4\n\n5\n\n")

    def test_as_they_are_and_not_in_the_one_form(self):
        self.assert_part("<a>&amp;&lt;>&gt;&#13;\"'</a>", "a", "&<>>\r\"'")
        self.assert_part("<a>1 > 0</a>", "a", "1 > 0")

    def test_none_of_comments(self):
        self.assert_part("<a>1<!--2-->3<!----><b><!-- &x; <c> --></b>4</a>", "a", "134")

    def test_none_of_instructions(self):
        self.assert_part("<a>1<?p 2?>3<?p?><b><?q &x; <c>?></b>4</a>", "a", "134")
        self.assert_part("<?p 1?><a>2</a><?p 3?>", "a", "2")

    def test_none_of_attributes(self):
        self.assert_part("<a b='1'>2<c d='3'/><c d='4'>5</c></a>", "a", "25")
        self.assert_part("<a b='1'/>", "a", "")

    def test_only_comments_and_instructions(self):
        self.assertEqual(part(0, octets("<a b='1'><!--1--><?p 2?><c/></a>"), octets("a")), [0])

    def test_characters_beyond_ascii(self):
        for sign in ("\x7f", "\x80", "\u07ff", "\u0800", "\ud7ff", "\ue000", "\ufffd", "\U00010000", "\U0010ffff"):
            self.assert_part(f"<a>{sign}<b>{sign}</b></a>", "a", sign * 2)
            self.assert_part(f"<a>&#{ord(sign)};</a>", "a", sign)
            self.assert_part(f"<a><![CDATA[{sign}]]></a>", "a", sign)

    def test_line_ends_that_only_others_know(self):
        self.assert_part("<a>1\u0085\u20282</a>", "a", "1\u0085\u20282")


class AttributeValues(PartTest):
    def test_of_the_root_and_of_an_inner_element(self):
        text = "<a b='1' c='2'>x<d b='3'/><d c='4' b='5'>y<e b='6'/></d></a>"
        for path, told in (
            ("a/@b", "1"), ("a/@c", "2"), ("a/d/@b", "3"), ("a/d[2]/@b", "5"), ("a/d[2]/@c", "4"), ("a/d[2]/e/@b", "6"),
        ):
            self.assert_part(text, path, told)

    def test_either_quote_and_any_order(self):
        for text in ("<a b='1' c='2'/>", '<a c="2" b="1"/>', "<a c = '2'\n b\t=\"1\" ></a >"):
            self.assert_part(text, "a/@b", "1")
            self.assert_part(text, "a/@c", "2")

    def test_an_empty_value(self):
        self.assertEqual(part(0, octets("<a b=''/>"), octets("a/@b")), [0])
        self.assertEqual(part(100, octets("<a><c b=\"\">x</c></a>"), octets("a/c/@b")), [0])

    def test_references(self):
        self.assert_part("<a b='&amp;&lt;&gt;&quot;&apos;'/>", "a/@b", "&<>\"'")
        self.assert_part("<a b='&#65;&#x42;&#x20aC;&#x10FFFF;'/>", "a/@b", "AB\u20ac\U0010ffff")
        self.assert_part("<a b='&amp;lt;&#38;amp;'/>", "a/@b", "&lt;&amp;")

    def test_9_and_10_are_spaces(self):
        self.assert_part("<a b='1\t2\n3\r\n4\r5 6'/>", "a/@b", "1 2 3 4 5 6")
        self.assert_part("<a b=' \t\n\r\n '/>", "a/@b", "     ")

    def test_9_10_and_13_by_references(self):
        self.assert_part("<a b='&#9;&#10;&#13;'/>", "a/@b", "\t\n\r")
        self.assert_part("<a b='&#xD;&#xA;\n'/>", "a/@b", "\r\n ")

    def test_as_they_are_and_not_in_the_one_form(self):
        self.assert_part("<a b='\"&#9;&#10;&#13;&amp;&lt;>'/>", "a/@b", "\"\t\n\r&<>")
        self.assert_part("<a b=\"it's ]]> --> ?> />\"/>", "a/@b", "it's ]]> --> ?> />")

    def test_characters_beyond_ascii(self):
        self.assert_part("<a b='\u00e9\u20ac\U0010ffff'/>", "a/@b", "\u00e9\u20ac\U0010ffff")

    def test_not_the_element_of_the_same_name(self):
        text = "<a b='1'><b b='2'>3</b></a>"
        for path, told in (("a/b", "3"), ("a/@b", "1"), ("a/b/@b", "2")):
            self.assert_part(text, path, told)


class Refusals(PartTest):
    def test_no_path(self):
        for path in NO_PATHS:
            self.assert_refused("<a b='1'/>", path, -1)

    def test_no_document(self):
        for text, path in itertools.product(NO_DOCUMENTS, ("a", "a[1]", "a/@b", "a/b")):
            self.assert_refused(text, path, -2)

    def test_too_deep(self):
        self.assert_refused(nested(65), "a", -4)
        self.assert_refused(nested(64, "<b/>"), "a/a", -4)
        self.assert_refused("<a b='1'>" + nested(64) + "</a>", "a/@b", -4)
        self.assert_refused(nested(1170), "a", -4)

    def test_too_deep_where_the_path_does_not_lead(self):
        self.assert_refused("<a><b>1</b>" + nested(64) + "</a>", "a/b", -4)

    def test_no_path_ahead_of_the_text_s_faults(self):
        for text, path in itertools.product(NO_DOCUMENTS + (nested(65), nested(65) + "x"), NO_PATHS):
            self.assert_refused(text, path, -1)

    def test_no_path_ahead_of_longer_than_most(self):
        for path, most in itertools.product(NO_PATHS, (-2147483648, -1, 0)):
            self.assert_refused("<a b='1'>2</a>", path, -1, most)

    def test_no_document_ahead_of_too_deep(self):
        for text in (nested(65) + "x", nested(65, "&"), nested(65, "<b>"), "x" + nested(65)):
            self.assert_refused(text, "a", -2)

    def test_the_text_s_faults_ahead_of_no_such_part(self):
        for text, path in itertools.product(NO_DOCUMENTS, ("x", "a[2]", "a/x", "a/@x", "a/b[99999]")):
            self.assert_refused(text, path, -2)
        for path in ("x", "a[2]", "a/x", "a/@x", "a/b[99999]", "/".join("a" * 128)):
            self.assert_refused(nested(65), path, -4)

    def test_a_fault_behind_the_part(self):
        self.assert_refused("<a><b>1</b><c></a>", "a/b", -2)
        self.assert_refused("<a b='1'>", "a/@b", -2)
        self.assert_refused("<a b='1'/>x", "a/@b", -2)

    def test_the_text_s_faults_ahead_of_longer_than_most(self):
        for most in (-2147483648, -1, 0):
            for text in NO_DOCUMENTS:
                self.assert_refused(text, "a", -2, most)
            self.assert_refused(nested(65, "x"), "a", -4, most)

    def test_no_such_part_ahead_of_longer_than_most(self):
        for path, most in itertools.product(("x", "a[2]", "a/x", "a/@x"), (-2147483648, -1, 0)):
            self.assert_refused("<a b='1'>2</a>", path, -5, most)


class Most(PartTest):
    def assert_just_fits(self, text, path, told):
        length = len(octets(told))
        for most in (length, length + 1, PLENTY):
            self.assertEqual(part(most, octets(text), octets(path)), [length] + octets(told))
        for most in (length - 1, -1, -2147483648):
            self.assertEqual(part(most, octets(text), octets(path)), [-3])

    def test_of_an_element(self):
        self.assert_just_fits("<a>1<b>23</b>4</a>", "a", "1234")
        self.assert_just_fits("<a>1<b>23</b>4</a>", "a/b", "23")

    def test_of_an_attribute(self):
        self.assert_just_fits("<a b='123'>x</a>", "a/@b", "123")

    def test_nothing_to_tell(self):
        self.assert_just_fits("<a/>", "a", "")
        self.assert_just_fits("<a b=''>x</a>", "a/@b", "")

    def test_bytes_are_counted_in_utf_8(self):
        for sign in ("\u00e9", "\u20ac", "\U0010ffff"):
            self.assert_just_fits(f"<a b='{sign}{sign}'>{sign}</a>", "a", sign)
            self.assert_just_fits(f"<a b='{sign}{sign}'>{sign}</a>", "a/@b", sign * 2)
            self.assert_just_fits(f"<a>&#{ord(sign)};</a>", "a", sign)

    def test_bytes_are_counted_as_they_are(self):
        self.assert_just_fits("<a b='&lt;&#9;\"'>&amp;&#13;></a>", "a", "&\r>")
        self.assert_just_fits("<a b='&lt;&#9;\"'>&amp;&#13;></a>", "a/@b", "<\t\"")
        self.assert_just_fits("<a>\r\n\r\n</a>", "a", "\n\n")

    def test_one_byte(self):
        self.assertEqual(part(0, octets("<a>1</a>"), octets("a")), [-3])
        self.assertEqual(part(1, octets("<a>1</a>"), octets("a")), [1, ord("1")])


class LongAndDeep(PartTest):
    def test_the_longest_texts(self):
        text = "<a>" + "x" * 8185 + "</a>"
        self.assertEqual(len(text), 8192)
        self.assert_part(text, "a", "x" * 8185)
        self.assert_refused(text, "a", -3, 8184)
        text = "<a b='" + "x" * 8183 + "'/>"
        self.assertEqual(len(text), 8192)
        self.assert_part(text, "a/@b", "x" * 8183)

    def test_the_longest_text_and_the_longest_path(self):
        name = "b" * 254
        text = f"<a><{name}>" + "x" * 7672 + f"</{name}></a>"
        self.assertEqual((len(text), len(f"a/{name}")), (8192, 256))
        self.assert_part(text, f"a/{name}", "x" * 7672)
        self.assert_refused(text, "/".join("a" * 126) + "/@bb", -5)

    def test_64_in_one_another(self):
        text = nested(63, "1<a b='2'>3</a>4<a>5</a>")
        inmost = "/".join("a" * 64)
        self.assert_part(text, inmost, "3")
        self.assert_part(text, inmost + "[1]", "3")
        self.assert_part(text, inmost + "[2]", "5")
        self.assert_part(text, inmost + "/@b", "2")
        self.assert_part(text, "/".join("a" * 63), "1345")
        self.assert_part(text, "a", "1345")
        self.assert_refused(text, inmost + "/a", -5)
        self.assert_refused(text, inmost + "[3]", -5)

    def test_a_path_with_numbers_down_to_the_innermost(self):
        steps = ["a[1]"] * 50
        text = nested(64, "x")
        self.assert_part(text, "/".join(steps + ["a"] * 14), "x")
        self.assert_refused(text, "/".join(steps + ["a"] * 15), -5)

    def test_each_depth(self):
        text = "".join(f"<a>{depth:02d}" for depth in range(64)) + "</a>" * 64
        for depth in range(64):
            told = "".join(f"{inner:02d}" for inner in range(depth, 64))
            self.assert_part(text, "/".join("a" * (depth + 1)), told)
