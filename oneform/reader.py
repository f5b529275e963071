"""A place in a row of characters, and the small steps that go on from it."""

from oneform.characters import begins_name, codes, is_space, stands_in_name
from oneform.faults import NoDocument


# Its take-methods refuse what doesn't stand there; its took-methods tell whether it stood there.
class Reader:
    def __init__(self, characters):
        self.characters = characters
        self.at = 0

    def ended(self):
        return self.at == len(self.characters)

    def stands(self, sign):
        return self.characters[self.at:self.at + len(sign)] == codes(sign)

    def took(self, sign):
        if not self.stands(sign):
            return False
        self.at += len(sign)
        return True

    def take(self, sign):
        if not self.took(sign):
            raise NoDocument()

    def took_spaces(self):
        start = self.at
        while not self.ended() and is_space(self.characters[self.at]):
            self.at += 1
        return self.at > start

    def take_character(self):
        if self.ended():
            raise NoDocument()
        self.at += 1
        return self.characters[self.at - 1]

    def take_up_to(self, sign):
        start = self.at
        while not self.stands(sign):
            self.take_character()
        before = self.characters[start:self.at]
        self.take(sign)
        return before

    # A tuple, so that it can be a key.
    def take_name(self):
        start = self.at
        if not begins_name(self.take_character()):
            raise NoDocument()
        while not self.ended() and stands_in_name(self.characters[self.at]):
            self.at += 1
        return tuple(self.characters[start:self.at])

    def take_equals(self):
        self.took_spaces()
        self.take("=")
        self.took_spaces()

    def take_quote(self):
        if self.took('"'):
            return '"'
        self.take("'")
        return "'"
