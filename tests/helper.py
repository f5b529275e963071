"""What the tests share: texts, calls of form with them, and its answers as bytes or as a refusal's number."""

import unittest

from oneform.elementss import form

PLENTY = 2147483647


def octets(text):
    return list(text.encode("utf-8") if isinstance(text, str) else text)


def nested(depth, inmost=""):
    return "<a>" * depth + inmost + "</a>" * depth


def answered(text, most=PLENTY):
    """The form's bytes; or the refusal's number."""
    answer = form(most, octets(text))
    if answer[0] < 0:
        if len(answer) != 1:
            raise AssertionError(f"a refusal is its number alone: {answer}")
        return answer[0]
    if answer[0] != len(answer) - 1:
        raise AssertionError(f"{answer[0]} bytes told, {len(answer) - 1} given")
    return bytes(answer[1:])


class FormTest(unittest.TestCase):
    def assert_told(self, text, told):
        with self.subTest(text=text):
            self.assertEqual(answered(text), bytes(octets(told)))

    def assert_no_document(self, text):
        with self.subTest(text=text):
            self.assertEqual(answered(text), -2)
