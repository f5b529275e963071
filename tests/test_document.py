"""Point 3: the first line, and what stands before and behind the element."""

from tests.helper import FormTest


class Declaration(FormTest):
    def assert_good(self, *declarations):
        for declaration in declarations:
            self.assert_told(declaration + "<a/>", "<a></a>")

    def assert_bad(self, *declarations):
        for declaration in declarations:
            self.assert_no_document(declaration + "<a/>")

    def test_with_and_without_each_part(self):
        self.assert_good(
            "",
            '<?xml version="1.0"?>',
            '<?xml version="1.0" encoding="UTF-8"?>',
            '<?xml version="1.0" standalone="yes"?>',
            '<?xml version="1.0" encoding="UTF-8" standalone="yes"?>',
        )
        self.assert_bad(
            "<?xml?>",
            "<?xml ?>",
            '<?xml encoding="UTF-8"?>',
            '<?xml standalone="yes"?>',
            '<?xml encoding="UTF-8" standalone="yes"?>',
        )

    def test_values(self):
        self.assert_good(
            '<?xml version="1.0" encoding="utf-8"?>',
            '<?xml version="1.0" standalone="no"?>',
            '<?xml version="1.0" encoding="utf-8" standalone="no"?>',
        )
        self.assert_bad(
            '<?xml version="1.1"?>',
            '<?xml version="1"?>',
            '<?xml version="1.00"?>',
            '<?xml version=""?>',
            '<?xml version=" 1.0"?>',
            '<?xml version="1.0 "?>',
            '<?xml version="&#49;.0"?>',
            '<?xml version="1.0" encoding="Utf-8"?>',
            '<?xml version="1.0" encoding="UTF8"?>',
            '<?xml version="1.0" encoding="UTF-16"?>',
            '<?xml version="1.0" encoding="US-ASCII"?>',
            '<?xml version="1.0" encoding=""?>',
            '<?xml version="1.0" standalone="Yes"?>',
            '<?xml version="1.0" standalone="NO"?>',
            '<?xml version="1.0" standalone="maybe"?>',
            '<?xml version="1.0" standalone=""?>',
        )

    def test_either_quote(self):
        self.assert_good(
            "<?xml version='1.0' encoding='UTF-8' standalone='yes'?>",
            "<?xml version='1.0' encoding=\"utf-8\" standalone='no'?>",
            "<?xml version=\"1.0\" encoding='UTF-8' standalone=\"yes\"?>",
        )
        self.assert_bad(
            "<?xml version=\"1.0'?>",
            "<?xml version='1.0\"?>",
            "<?xml version=1.0?>",
            "<?xml version='1.0?>",
            "<?xml version='1.0' encoding='UTF-8\"?>",
            "<?xml version='?>",
            "<?xml version='1.0' encoding='?>",
            "<?xml version='1.0' standalone='?>",
            "<?xml version='1.0' standalone=\"yes'?>",
        )

    def test_spaces(self):
        self.assert_good(
            '<?xml \t\n version \t\n = \t\n "1.0" \t\n ?>',
            '<?xml\tversion="1.0"\tencoding="UTF-8"\tstandalone="yes"?>',
            '<?xml\nversion="1.0"\nencoding="UTF-8"\nstandalone="yes"\n?>',
            '<?xml\rversion="1.0"\r\nencoding = "UTF-8"\r\n standalone\r=\r"yes"\r?>',
            '<?xml version="1.0"  encoding ="UTF-8"  standalone= "yes"  ?>',
        )
        self.assert_bad(
            '<?xmlversion="1.0"?>',
            '<?xml version="1.0"encoding="UTF-8"?>',
            '<?xml version="1.0"standalone="yes"?>',
            '<?xml version="1.0" encoding="UTF-8"standalone="yes"?>',
            '<? xml version="1.0"?>',
            '<?xml version="1.0"? >',
            '<?xml ver sion="1.0"?>',
        )

    def test_names_as_told(self):
        self.assert_bad(
            '<?XML version="1.0"?>',
            '<?Xml version="1.0"?>',
            '<?xml Version="1.0"?>',
            '<?xml version="1.0" Encoding="UTF-8"?>',
            '<?xml version="1.0" STANDALONE="yes"?>',
            '<?xml version="1.0" other="1"?>',
            '<?xml version "1.0"?>',
        )

    def test_order_and_once_each(self):
        self.assert_bad(
            '<?xml encoding="UTF-8" version="1.0"?>',
            '<?xml standalone="yes" version="1.0"?>',
            '<?xml version="1.0" standalone="yes" encoding="UTF-8"?>',
            '<?xml version="1.0" version="1.0"?>',
            '<?xml version="1.0" encoding="UTF-8" encoding="UTF-8"?>',
            '<?xml version="1.0" standalone="yes" standalone="yes"?>',
        )

    def test_its_end(self):
        self.assert_bad('<?xml version="1.0"', '<?xml version="1.0">', '<?xml version="1.0"/>', '<?xml version="1.0"??>')

    def test_only_at_the_very_beginning_and_once(self):
        line = '<?xml version="1.0"?>'
        self.assert_no_document(" " + line + "<a/>")
        self.assert_no_document("\n" + line + "<a/>")
        self.assert_no_document("<!---->" + line + "<a/>")
        self.assert_no_document("<?p?>" + line + "<a/>")
        self.assert_no_document(line + line + "<a/>")
        self.assert_no_document("<a>" + line + "</a>")
        self.assert_no_document("<a/>" + line)
        self.assert_no_document(line)

    def test_a_longer_name_begins_an_instruction(self):
        self.assert_told("<?xml-stylesheet href='a'?><a/>", "<?xml-stylesheet href='a'?>\n<a></a>")
        self.assert_told("<?xmlx?><a/>", "<?xmlx?>\n<a></a>")
        self.assert_told("<?xml:version ='1.0'?><a/>", "<?xml:version ='1.0'?>\n<a></a>")


class AroundTheElement(FormTest):
    def test_spaces_comments_and_instructions(self):
        self.assert_told("\n<!--1--> <?p?>\t<a/>\n<?q?> <!--2-->\r\n", "<?p?>\n<a></a>\n<?q?>")
        self.assert_told("<?xml version='1.0'?>\n<!--1--><?p?><a/>", "<?p?>\n<a></a>")

    def test_there_is_one_element(self):
        for text in ("", " ", "\n", "<!---->", "<?p?>", "<?xml version='1.0'?>", "x", "<", "</a>"):
            self.assert_no_document(text)

    def test_there_is_not_another(self):
        self.assert_no_document("<a/><b/>")
        self.assert_no_document("<a></a><a></a>")
        self.assert_no_document("<a/> <!----> <a/>")

    def test_nothing_else(self):
        for other in ("x", "&amp;", "&#32;", "<![CDATA[]]>", "<![CDATA[ ]]>", "]", ">", "/", "</a>", "<", "&", "\u00a0"):
            self.assert_no_document(other + "<a/>")
            self.assert_no_document("<a/>" + other)
            self.assert_no_document("<?xml version='1.0'?>" + other + "<a/>")

    def test_no_doctype(self):
        self.assert_no_document("<!DOCTYPE a><a/>")
        self.assert_no_document("<!doctype a><a/>")
        self.assert_no_document("<?xml version='1.0'?><!DOCTYPE a [<!ELEMENT a EMPTY>]><a/>")
        self.assert_no_document("<a><!DOCTYPE a></a>")
        self.assert_no_document("<a/><!DOCTYPE a>")
