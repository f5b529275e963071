"""What a document is made of, each piece with its characters in the one form."""

from oneform.characters import codes

VALUE_ESCAPES = {38: "&amp;", 60: "&lt;", 34: "&quot;", 9: "&#x9;", 10: "&#xA;", 13: "&#xD;"}
CONTENT_ESCAPES = {38: "&amp;", 60: "&lt;", 62: "&gt;", 13: "&#xD;"}


def escaped(characters, escapes):
    told = []
    for character in characters:
        if character in escapes:
            told.extend(codes(escapes[character]))
        else:
            told.append(character)
    return told


class Start:
    def __init__(self, name, attributes):
        self.name = name
        self.attributes = attributes

    def told(self):
        characters = codes("<") + list(self.name)
        for name in sorted(self.attributes):
            characters.extend(codes(" ") + list(name) + codes('="'))
            characters.extend(escaped(self.attributes[name], dict(VALUE_ESCAPES)) + codes('"'))
        return characters + codes(">")


class End:
    def __init__(self, name):
        self.name = name

    def told(self):
        return codes("</") + list(self.name) + codes(">")


class Characters:
    def __init__(self, characters):
        self.characters = characters

    def told(self):
        return escaped(self.characters, dict(CONTENT_ESCAPES))


class Instruction:
    def __init__(self, name, data):
        self.name = name
        self.data = data

    def told(self):
        space = codes(" ") if self.data else []
        return codes("<?") + list(self.name) + space + self.data + codes("?>")


# The element is a row of pieces, not a tree, so that it's gone through by loops.
class Document:
    def __init__(self, before, pieces, behind):
        self.before = before
        self.pieces = pieces
        self.behind = behind
