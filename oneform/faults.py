"""What a text is refused for: raised where it's found, answered by the calls."""


class NoDocument(ValueError):
    pass


class TooDeep(ValueError):
    pass
