"""What a call is refused for: raised where it's found, answered by the calls."""


class NoPath(ValueError):
    pass


class NoDocument(ValueError):
    pass


class TooDeep(ValueError):
    pass


class NoPart(ValueError):
    pass
