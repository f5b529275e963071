"""What the tests share: texts, calls of form and part with them, and answers as bytes or as a refusal's number."""

import unittest

from oneform.elementss import form, part

PLENTY = 2147483647


def octets(text):
    return list(text.encode("utf-8") if isinstance(text, str) else text)


def nested(depth, inmost=""):
    return "<a>" * depth + inmost + "</a>" * depth


def told_bytes(answer):
    """The bytes that an answer tells; or the refusal's number."""
    if answer[0] < 0:
        if len(answer) != 1:
            raise AssertionError(f"a refusal is its number alone: {answer}")
        return answer[0]
    if answer[0] != len(answer) - 1:
        raise AssertionError(f"{answer[0]} bytes told, {len(answer) - 1} given")
    return bytes(answer[1:])


def answered(text, most=PLENTY):
    return told_bytes(form(most, octets(text)))


def answered_part(text, path, most=PLENTY):
    return told_bytes(part(most, octets(text), octets(path)))


class FormTest(unittest.TestCase):
    def assert_told(self, text, told):
        with self.subTest(text=text):
            self.assertEqual(answered(text), bytes(octets(told)))

    def assert_no_document(self, text):
        with self.subTest(text=text):
            self.assertEqual(answered(text), -2)


class PartTest(unittest.TestCase):
    def assert_part(self, text, path, told):
        with self.subTest(text=text, path=path):
            self.assertEqual(answered_part(text, path), bytes(octets(told)))

    def assert_refused(self, text, path, number, most=PLENTY):
        with self.subTest(text=text, path=path, most=most):
            self.assertEqual(answered_part(text, path, most), number)
