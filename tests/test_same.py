"""Point 10: whether two texts have one form, and whose fault comes first."""

import itertools
import unittest

from oneform.elementss import form, same
from tests.helper import PLENTY, answered, nested, octets


class SameTest(unittest.TestCase):
    def assert_answer(self, a, b, expected):
        with self.subTest(a=a, b=b):
            self.assertEqual(same(octets(a), octets(b)), [expected])

    def assert_one(self, *texts):
        """Each with each, in either order, and each with itself."""
        for a, b in itertools.product(texts, repeat=2):
            self.assert_answer(a, b, 1)

    def assert_different(self, *texts):
        """Each with each other, in either order; each is the same as itself."""
        for a, b in itertools.product(enumerate(texts), repeat=2):
            self.assert_answer(a[1], b[1], 1 if a[0] == b[0] else 0)


class OneDocument(SameTest):
    def test_a_text_and_itself(self):
        self.assert_one("<a/>")
        self.assert_one("<?p q?><a b='1'>x<c/>&#xD;</a><?r?>")

    def test_quotes(self):
        self.assert_one("<a b='1' c=\"2\"/>", "<a b=\"1\" c='2'/>", "<a b='1' c='2'/>", '<a b="1" c="2"/>')
        self.assert_one("<a b=\"it's\"/>", "<a b='it&apos;s'/>")
        self.assert_one("<a b='\"'/>", '<a b="&quot;"/>')

    def test_order_of_attributes(self):
        orders = itertools.permutations((" b='1'", " bb='2'", " \u00e9='3'"))
        self.assert_one(*[f"<a{''.join(order)}/>" for order in orders])

    def test_order_of_attributes_within(self):
        self.assert_one("<a><b c='1' d='2'/></a>", "<a><b d='2' c='1'/></a>")

    def test_references_in_content(self):
        self.assert_one("<a>A\u20ac></a>", "<a>&#65;&#8364;&gt;</a>", "<a>&#x41;&#x20aC;&#62;</a>")
        self.assert_one("<a>&amp;&lt;&quot;&apos;</a>", "<a>&#38;&#60;\"'</a>", "<a>&#x26;&#x03C;&#34;&#x27;</a>")
        self.assert_one("<a>\t\n</a>", "<a>&#9;&#10;</a>")

    def test_references_in_values(self):
        self.assert_one("<a b='A\u20ac>'/>", "<a b='&#65;&#8364;&gt;'/>", "<a b='&#x41;&#x20aC;&#62;'/>")
        self.assert_one("<a b='&amp;&lt;&quot;&apos;'/>", "<a b=\"&#38;&#x3c;&#34;'\"/>")

    def test_9_and_10_in_values_are_spaces(self):
        self.assert_one("<a b=' '/>", "<a b='\t'/>", "<a b='\n'/>", "<a b='\r\n'/>", "<a b='&#32;'/>")

    def test_comments(self):
        self.assert_one(
            "<a>12<b/></a>", "<!--x--><a>12<b/></a>", "<a>12<b/></a><!----><!--y-->", "<a><!--x-->12<b/></a>",
            "<a>1<!--x-->2<b/></a>", "<a>12<b><!--x--></b></a>",
        )

    def test_line_ends(self):
        self.assert_one("<a>1\n\n2\n</a>", "<a>1\r\n\r\n2\r\n</a>", "<a>1\r\r2\r</a>", "<a>1\n\r2\r\n</a>")
        self.assert_one("<?p 1\n2?><a/>", "<?p 1\r\n2?><a/>", "<?p 1\r2?><a/>")

    def test_spaces_outside_the_element(self):
        self.assert_one("<a/>", " <a/>", "<a/> ", "\n\t<a/>\r\n")
        self.assert_one("<?p?><a/><?q?>", " <?p?>\n\n<a/>\t<?q?>\r\n")

    def test_spaces_inside_tags(self):
        self.assert_one("<a b='1'>x</a>", "<a  b='1'>x</a>", "<a b = '1' >x</a >", "<a\nb\t='1'\r\n>x</a\n\t>")
        self.assert_one("<a/>", "<a />", "<a\n/>", "<a ></a >")

    def test_cdata_against_characters(self):
        self.assert_one(
            "<a>1&lt;2&amp;]]&gt;</a>", "<a><![CDATA[1<2&]]>]]&gt;</a>", "<a>1<![CDATA[<]]>2<![CDATA[&]]]]>&gt;</a>",
            "<a><![CDATA[1<2&]]]]><![CDATA[>]]></a>",
        )
        self.assert_one("<a/>", "<a><![CDATA[]]></a>")

    def test_both_ways_of_an_empty_element(self):
        self.assert_one("<a/>", "<a></a>")
        self.assert_one("<a b='1'><c/><c/></a>", "<a b='1'><c></c><c/></a>", "<a b='1'><c></c><c></c></a>")

    def test_the_first_line(self):
        self.assert_one(
            "<a/>", "<?xml version='1.0'?><a/>", '<?xml version="1.0" encoding="UTF-8" standalone="yes"?>\n<a/>',
            "<?xml version='1.0' encoding='utf-8' standalone='no' ?><a/>",
        )

    def test_spaces_in_front_of_an_instructions_data(self):
        self.assert_one("<?p q?><a/>", "<?p  q?><a/>", "<?p\n\tq?><a/>")
        self.assert_one("<a><?p?></a>", "<a><?p ?></a>", "<a><?p \t\n?></a>")

    def test_a_text_and_its_form(self):
        text = "<?p?><a d='&#10;\"' c='\t'>&#13;<b/><![CDATA[]]]]>&gt;\r\n<?q  r?></a><!----><?s?>"
        self.assert_one(text, answered(text))


class OtherDocument(SameTest):
    def test_names_of_elements(self):
        self.assert_different("<a/>", "<b/>", "<A/>", "<aa/>", "<x:a/>", "<\u00e1/>", "<a\u0301/>")
        self.assert_different("<a><b/></a>", "<a><c/></a>")

    def test_names_of_attributes(self):
        self.assert_different("<a b='1'/>", "<a c='1'/>", "<a B='1'/>", "<a bb='1'/>", "<a/>", "<a b='1' c='1'/>")

    def test_values(self):
        self.assert_different(
            "<a b='1'/>", "<a b='2'/>", "<a b=''/>", "<a b='1 '/>", "<a b=' 1'/>", "<a b='11'/>", "<a b='&#x661;'/>",
        )
        self.assert_different("<a b='x'/>", "<a b='X'/>")
        self.assert_different("<a b='1' c='2'/>", "<a b='2' c='1'/>")

    def test_9_10_and_13_by_references_in_values(self):
        self.assert_different("<a b=' '/>", "<a b='&#9;'/>", "<a b='&#10;'/>", "<a b='&#13;'/>", "<a b='&#13;&#10;'/>")

    def test_an_attribute_of_another_element(self):
        self.assert_different("<a b='1'><c/></a>", "<a><c b='1'/></a>")

    def test_content(self):
        self.assert_different("<a/>", "<a>1</a>", "<a>2</a>", "<a>12</a>", "<a>21</a>", "<a>1<b/></a>", "<a><b/>1</a>")
        self.assert_different("<a><b/><c/></a>", "<a><c/><b/></a>", "<a><b><c/></b></a>", "<a><b/></a>")
        self.assert_different("<a>x<b/></a>", "<a><b>x</b></a>")
        self.assert_different("<a>\u00e9</a>", "<a>e\u0301</a>", "<a>e</a>")

    def test_13_by_a_reference_in_content(self):
        self.assert_different("<a>\n</a>", "<a>&#13;</a>", "<a>&#13;\n</a>")

    def test_marks_that_are_characters(self):
        self.assert_different("<a><b/></a>", "<a>&lt;b/></a>", "<a>&amp;lt;b/></a>")
        self.assert_different("<a><?p?></a>", "<a><![CDATA[<?p?>]]></a>")
        self.assert_different("<a>&amp;</a>", "<a><![CDATA[&amp;]]></a>")

    def test_instructions(self):
        self.assert_different(
            "<?p?><a/>", "<?q?><a/>", "<?p q?><a/>", "<?p r?><a/>", "<?p q ?><a/>", "<?pq?><a/>", "<a/>",
        )
        self.assert_different("<a><?p?></a>", "<a><?q?></a>", "<a><?p q?></a>", "<a/>")
        self.assert_different("<a/><?p?>", "<a/><?q?>", "<a/><?p q?>", "<a/>")

    def test_places_of_instructions(self):
        self.assert_different("<?p?><a/>", "<a><?p?></a>", "<a/><?p?>")
        self.assert_different("<a><?p?><b/></a>", "<a><b><?p?></b></a>", "<a><b/><?p?></a>")
        self.assert_different("<a>1<?p?>2</a>", "<a>12<?p?></a>", "<a><?p?>12</a>")

    def test_order_and_number_of_instructions(self):
        self.assert_different("<?p?><?q?><a/>", "<?q?><?p?><a/>", "<?p?><a/><?q?>", "<?p?><a/>", "<?p?><?p?><a/>")

    def test_references_in_instructions_are_none(self):
        self.assert_different("<?p A?><a/>", "<?p &#65;?><a/>")

    def test_spaces_in_content(self):
        self.assert_different("<a/>", "<a> </a>", "<a>  </a>", "<a>\n</a>", "<a>\t</a>")
        self.assert_different("<a>1</a>", "<a> 1</a>", "<a>1 </a>", "<a>1\n</a>")
        self.assert_different("<a><b/></a>", "<a> <b/></a>", "<a><b/> </a>", "<a><b> </b></a>")

    def test_one_character_at_the_end_of_long_texts(self):
        long = "x" * 8184
        self.assert_different(f"<a>{long}x</a>", f"<a>{long}y</a>", f"<a>{long}</a>")


class Faults(SameTest):
    NO_DOCUMENTS = ("", "x", "<a>", "<a></b>", "<a/><b/>", "<a>&x;</a>", "<!DOCTYPE a><a/>", b"<a>\xff</a>")

    def test_of_a_alone(self):
        for text in self.NO_DOCUMENTS:
            self.assert_answer(text, "<a/>", -2)
        self.assert_answer(nested(65), "<a/>", -4)

    def test_of_b_alone(self):
        for text in self.NO_DOCUMENTS:
            self.assert_answer("<a/>", text, -2)
        self.assert_answer("<a/>", nested(65), -4)

    def test_of_both_the_same(self):
        for a, b in itertools.product(self.NO_DOCUMENTS, repeat=2):
            self.assert_answer(a, b, -2)
        self.assert_answer(nested(65), nested(66), -4)

    def test_of_both_a_s_first(self):
        for text in self.NO_DOCUMENTS:
            self.assert_answer(text, nested(65), -2)
            self.assert_answer(nested(65), text, -4)

    def test_a_text_that_is_too_deep_and_no_document(self):
        self.assert_answer(nested(65) + "x", nested(65), -2)
        self.assert_answer(nested(65), nested(65) + "x", -4)
        self.assert_answer("<a/>", nested(65) + "x", -2)

    def test_one_and_the_same_text(self):
        for text in self.NO_DOCUMENTS:
            self.assert_answer(text, text, -2)
        self.assert_answer(nested(65), nested(65), -4)

    def test_64_in_one_another(self):
        self.assert_one(nested(64), nested(63, "<a/>"))
        self.assert_answer(nested(64), nested(63), 0)
        self.assert_answer(nested(64), nested(64, "<b/>"), -4)
        self.assert_answer(nested(64, "<b/>"), nested(64), -4)

    def test_depths_are_not_added_up(self):
        self.assert_answer(nested(64), nested(64), 1)


class NoMost(SameTest):
    QUOTES = "<a b='" + '"' * 8183 + "'/>"

    def test_forms_that_are_much_longer_than_their_texts(self):
        self.assertEqual(len(self.QUOTES), 8192)
        self.assertEqual(form(PLENTY, octets(self.QUOTES))[0], 49110)
        self.assert_answer(self.QUOTES, self.QUOTES, 1)
        self.assert_different(self.QUOTES, "<a/>", "<a b='" + '"' * 8182 + "'/>", "<a b='" + '"' * 8182 + "&apos;'/>")

    def test_the_same_long_form_of_other_texts(self):
        half = 1300
        self.assert_one(
            "<a>" + ">" * 2 * half + "</a>", "<a>" + "&gt;" * half + ">" * half + "</a>",
            "<a><![CDATA[" + ">" * 2 * half + "]]></a>",
        )

    def test_never_longer_than_most(self):
        texts = ("<a/>", self.QUOTES, "<a>" + ">" * 8185 + "</a>", "<a>" + "<b/>" * 2046 + "</a>", "<a>", nested(65))
        for a, b in itertools.product(texts, repeat=2):
            with self.subTest(a=a, b=b):
                self.assertIn(same(octets(a), octets(b)), ([1], [0], [-2], [-4]))


class AsFormTells(unittest.TestCase):
    TEXTS = (
        "<a/>", "<a></a>", "<a> </a>", "<a b='1'/>", "<a b=\"1\" />", "<a b='&#49;'></a>", "<?p?><a/>", "<a/><?p ?>",
        "<a><![CDATA[ ]]></a>", "<a>&#32;</a>", "<a>\r</a>", "<a>\n</a>", "<a>&#13;</a>", "", "<a", "<a>]]></a>",
        nested(64), nested(65), nested(65, "&"),
    )

    def expected(self, a, b):
        forms = [form(PLENTY, octets(text)) for text in (a, b)]
        for told in forms:
            if told[0] < 0:
                return told
        return [1 if forms[0] == forms[1] else 0]

    def test_each_with_each(self):
        for a, b in itertools.product(self.TEXTS, repeat=2):
            with self.subTest(a=a, b=b):
                self.assertEqual(same(octets(a), octets(b)), self.expected(a, b))
