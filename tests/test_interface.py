"""The interface: names, arguments, kinds, what is kept and what is changed."""

import ast
import contextlib
import inspect
import io
import itertools
import pathlib
import sys
import unittest

import oneform
import oneform.elementss
from oneform.elementss import form, part, same
from tests.helper import octets

TEXTS = (
    "<?p?><a c='1' b='&#10;\"'>x\r\n<b/>&amp;<![CDATA[<]]></a>",
    "<a>\u20ac</a>",
    "<a>",
    "",
    "<a>" * 65 + "</a>" * 65,
    "<a/>",
)


class Frozen(list):
    """A list that fails where one tries to change it, be it for a while."""

    def refuse(self, *what, **more):
        raise AssertionError("what is handed in is changed")

    append = extend = insert = remove = pop = clear = sort = reverse = refuse
    __setitem__ = __delitem__ = __iadd__ = __imul__ = refuse


class Interface(unittest.TestCase):
    def test_names_and_arguments(self):
        self.assertEqual(list(inspect.signature(form).parameters), ["most", "text"])
        self.assertEqual(form(most=7, text=octets("<a/>")), form(7, octets("<a/>")))

    def test_what_is_given_back(self):
        self.assertEqual(form(100, octets("<a/>")), [7] + octets("<a></a>"))
        self.assertEqual(form(6, octets("<a/>")), [-3])
        self.assertEqual(form(100, octets("<a>")), [-2])
        self.assertEqual(form(10000, octets("<a>" * 65 + "</a>" * 65)), [-4])

    def test_kinds(self):
        for text in TEXTS:
            answer = form(100, octets(text))
            self.assertIs(type(answer), list)
            for number in answer:
                self.assertIs(type(number), int)

    def test_bytes_are_from_0_to_255(self):
        for number in form(100, octets("<a>\u20ac\U0010ffff</a>"))[1:]:
            self.assertIn(number, range(256))

    def test_what_is_handed_in_stays(self):
        for text in TEXTS:
            handed_in = Frozen(octets(text))
            form(100, handed_in)
            self.assertEqual(list(handed_in), octets(text))

    def test_a_second_call_answers_as_the_first(self):
        first = [form(100, octets(text)) for text in TEXTS]
        for most in (100, 3, 100):
            again = [form(most, octets(text)) for text in reversed(TEXTS)]
        self.assertEqual(list(reversed(again)), first)

    def test_what_was_given_back_is_the_callers(self):
        text = octets("<a b='&lt;'>&gt;</a>")
        answer = form(100, text)
        expected = list(answer)
        answer.clear()
        self.assertEqual(form(100, text), expected)

    def test_the_answer_is_not_what_was_handed_in(self):
        text = octets("<a></a>")
        answer = form(100, text)
        answer.append(0)
        self.assertEqual(text, octets("<a></a>"))

    def test_few_calls_within_one_another(self):
        # The frames that are there already count too.
        limit = sys.getrecursionlimit()
        sys.setrecursionlimit(len(inspect.stack()) + 40)
        try:
            deep = form(100, octets("<a>" * 1170 + "</a>" * 1170))
            long = form(8192, octets("<a>" + "x" * 8185 + "</a>"))
        finally:
            sys.setrecursionlimit(limit)
        self.assertEqual(deep, [-4])
        self.assertEqual(long[0], 8192)


class InterfaceOfSame(unittest.TestCase):
    def test_names_and_arguments(self):
        self.assertEqual(list(inspect.signature(same).parameters), ["a", "b"])
        self.assertEqual(same(b=octets("<a>"), a=octets("<a>" * 65 + "</a>" * 65)), [-4])

    def test_what_is_given_back(self):
        self.assertEqual(same(octets("<a/>"), octets("<a></a>")), [1])
        self.assertEqual(same(octets("<a/>"), octets("<b/>")), [0])
        self.assertEqual(same(octets("<a>"), octets("<a/>")), [-2])
        self.assertEqual(same(octets("<a/>"), octets("<a>" * 65 + "</a>" * 65)), [-4])

    def test_kinds(self):
        for a, b in itertools.product(TEXTS, repeat=2):
            answer = same(octets(a), octets(b))
            self.assertIs(type(answer), list)
            self.assertEqual([type(number) for number in answer], [int])

    def test_empty_and_longest_texts_are_in_their_range(self):
        longest = octets("<a>" + "x" * 8185 + "</a>")
        self.assertEqual(len(longest), 8192)
        self.assertEqual(same([], []), [-2])
        self.assertEqual(same([], longest), [-2])
        self.assertEqual(same(longest, []), [-2])
        self.assertEqual(same(longest, list(longest)), [1])

    def test_what_is_handed_in_stays(self):
        for a, b in itertools.product(TEXTS, repeat=2):
            first = Frozen(octets(a))
            second = Frozen(octets(b))
            same(first, second)
            self.assertEqual((list(first), list(second)), (octets(a), octets(b)))

    def test_one_and_the_same_list_stays(self):
        for text in TEXTS:
            both = Frozen(octets(text))
            fault = form(100, both) if form(100, both)[0] < 0 else [1]
            self.assertEqual(same(both, both), fault)
            self.assertEqual(list(both), octets(text))

    def test_a_second_call_answers_as_the_first(self):
        pairs = list(itertools.product(TEXTS, repeat=2))
        first = [same(octets(a), octets(b)) for a, b in pairs]
        for text in TEXTS:
            form(3, octets(text))
        again = [same(octets(a), octets(b)) for a, b in reversed(pairs)]
        self.assertEqual(list(reversed(again)), first)

    def test_a_list_that_its_owner_changed_is_read_anew(self):
        a = octets("<a/>")
        b = octets("<a/>")
        self.assertEqual(same(a, b), [1])
        b[1] = ord("b")
        self.assertEqual(same(a, b), [0])
        a[1] = ord("b")
        self.assertEqual(same(a, b), [1])
        a.pop()
        self.assertEqual(same(a, b), [-2])

    def test_what_was_given_back_is_the_callers(self):
        for text in TEXTS:
            answer = same(octets(text), octets(text))
            expected = list(answer)
            answer.append(7)
            self.assertEqual(same(octets(text), octets(text)), expected)

    def test_few_calls_within_one_another(self):
        deep = octets("<a>" * 1170 + "</a>" * 1170)
        long = octets("<a>" + "x" * 8185 + "</a>")
        # The frames that are there already count too.
        limit = sys.getrecursionlimit()
        sys.setrecursionlimit(len(inspect.stack()) + 40)
        try:
            answers = [same(deep, long), same(long, deep), same(long, long)]
        finally:
            sys.setrecursionlimit(limit)
        self.assertEqual(answers, [[-4], [-4], [1]])

    def test_it_prints_nothing(self):
        out = io.StringIO()
        with contextlib.redirect_stdout(out), contextlib.redirect_stderr(out):
            for a, b in itertools.product(TEXTS, repeat=2):
                same(octets(a), octets(b))
        self.assertEqual(out.getvalue(), "")


PATHS = ("a", "a[1]", "a/b", "a/@b", "a/@c", "a/b[2]", "x", "a/", "", "a[0]")


class InterfaceOfPart(unittest.TestCase):
    def test_names_and_arguments(self):
        self.assertEqual(list(inspect.signature(part).parameters), ["most", "text", "path"])
        self.assertEqual(part(path=octets("a/@b"), most=1, text=octets("<a b='1'/>")), [1, ord("1")])

    def test_what_is_given_back(self):
        text = octets("<a b='12'>345</a>")
        self.assertEqual(part(100, text, octets("a")), [3] + octets("345"))
        self.assertEqual(part(100, text, octets("a/@b")), [2] + octets("12"))
        self.assertEqual(part(100, text, octets("a/")), [-1])
        self.assertEqual(part(100, octets("<a>"), octets("a")), [-2])
        self.assertEqual(part(2, text, octets("a")), [-3])
        self.assertEqual(part(100, octets("<a>" * 65 + "</a>" * 65), octets("a")), [-4])
        self.assertEqual(part(100, text, octets("b")), [-5])

    def test_kinds(self):
        for text, path, most in itertools.product(TEXTS, PATHS, (100, 0, -1)):
            answer = part(most, octets(text), octets(path))
            self.assertIs(type(answer), list)
            for number in answer:
                self.assertIs(type(number), int)

    def test_bytes_are_from_0_to_255(self):
        for number in part(100, octets("<a>\u20ac\U0010ffff&#x10ffff;</a>"), octets("a"))[1:]:
            self.assertIn(number, range(256))

    def test_empty_lists_are_in_their_range(self):
        self.assertEqual(part(100, [], []), [-1])
        self.assertEqual(part(100, octets("<a/>"), []), [-1])
        self.assertEqual(part(100, [], octets("a")), [-2])

    def test_what_is_handed_in_stays(self):
        for text, path in itertools.product(TEXTS, PATHS):
            first = Frozen(octets(text))
            second = Frozen(octets(path))
            part(100, first, second)
            self.assertEqual((list(first), list(second)), (octets(text), octets(path)))

    def test_one_and_the_same_list_as_both(self):
        both = Frozen(octets("a"))
        self.assertEqual(part(100, both, both), [-2])
        both = Frozen(octets("<a/>"))
        self.assertEqual(part(100, both, both), [-1])

    def test_a_second_call_answers_as_the_first(self):
        pairs = list(itertools.product(TEXTS, PATHS))
        first = [part(100, octets(text), octets(path)) for text, path in pairs]
        for text in TEXTS:
            form(3, octets(text))
            same(octets(text), octets("<a/>"))
            part(1, octets(text), octets("a"))
        again = [part(100, octets(text), octets(path)) for text, path in reversed(pairs)]
        self.assertEqual(list(reversed(again)), first)

    def test_lists_that_their_owner_changed_are_read_anew(self):
        text = octets("<a b='1'>2</a>")
        path = octets("a")
        self.assertEqual(part(100, text, path), [1, ord("2")])
        text[9] = ord("3")
        self.assertEqual(part(100, text, path), [1, ord("3")])
        path.extend(octets("/@b"))
        self.assertEqual(part(100, text, path), [1, ord("1")])
        path.pop()
        self.assertEqual(part(100, text, path), [-1])

    def test_what_was_given_back_is_the_callers(self):
        text = octets("<a b='1'>2</a>")
        for path in ("a", "a/@b", "b", "a/"):
            answer = part(100, text, octets(path))
            expected = list(answer)
            answer.append(7)
            self.assertEqual(part(100, text, octets(path)), expected)

    def test_few_calls_within_one_another(self):
        deep = octets("<a>" * 1170 + "</a>" * 1170)
        long = octets("<a>" + "x" * 8185 + "</a>")
        many = octets("<a>" + "<b/>" * 2046 + "</a>")
        nested = octets("<a>" * 64 + "x" + "</a>" * 64)
        # The frames that are there already count too.
        limit = sys.getrecursionlimit()
        sys.setrecursionlimit(len(inspect.stack()) + 40)
        try:
            answers = [
                part(100, deep, octets("a/" * 127 + "a")), part(100, long, octets("a")),
                part(100, many, octets("a/b[2046]")), part(100, nested, octets("a/" * 63 + "a")),
                part(100, nested, octets("a/" * 128)),
            ]
        finally:
            sys.setrecursionlimit(limit)
        self.assertEqual(answers, [[-4], [-3], [0], [1, ord("x")], [-1]])

    def test_it_prints_nothing(self):
        out = io.StringIO()
        with contextlib.redirect_stdout(out), contextlib.redirect_stderr(out):
            for text, path in itertools.product(TEXTS, PATHS):
                part(100, octets(text), octets(path))
        self.assertEqual(out.getvalue(), "")


class Package(unittest.TestCase):
    def files(self):
        return sorted(pathlib.Path(oneform.__file__).parent.glob("*.py"))

    def test_it_imports_nothing_but_its_own(self):
        for path in self.files():
            for node in ast.walk(ast.parse(path.read_text())):
                self.assertNotIsInstance(node, ast.Import, path)
                if isinstance(node, ast.ImportFrom):
                    self.assertEqual((node.level, node.module.split(".")[0]), (0, "oneform"), path)

    def test_it_prints_and_reads_nothing(self):
        for path in self.files():
            for node in ast.walk(ast.parse(path.read_text())):
                if isinstance(node, ast.Name):
                    self.assertNotIn(node.id, ("print", "input", "open", "exec", "eval"), path)

    def test_sizes_and_signs(self):
        for path in self.files():
            rows = path.read_text().split("\n")
            self.assertLessEqual(len(rows), 401, path)
            for row in rows:
                self.assertLessEqual(len(row), 120, path)
                self.assertTrue(all(" " <= sign <= "~" for sign in row), path)
            for node in ast.walk(ast.parse("\n".join(rows))):
                if isinstance(node, ast.FunctionDef):
                    self.assertLess(node.end_lineno - node.lineno, 40, node.name)
