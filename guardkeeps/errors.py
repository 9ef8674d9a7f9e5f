"""The errors of the package, each straight under one of Python's own."""


class BadWish(ValueError):
    """What is no WISH; part tells what of it is wrong."""

    def __init__(self, part):
        ValueError.__init__(self, part)
        self.part = part


class BadKind(ValueError):
    """What is no KIND; part tells what of it is wrong."""

    def __init__(self, part):
        ValueError.__init__(self, part)
        self.part = part


class BadGuard(ValueError):
    """What is no GUARD; part tells what of it is wrong."""

    def __init__(self, part):
        ValueError.__init__(self, part)
        self.part = part


class BadPaper(ValueError):
    """What is no right paper; part tells what of it is wrong."""

    def __init__(self, part):
        ValueError.__init__(self, part)
        self.part = part


class BadText(ValueError):
    """What is no text of the kind that is read; line tells where."""

    def __init__(self, line):
        ValueError.__init__(self, line)
        self.line = line


class OutOfPlace(ValueError):
    """An argument that is not of the kind that is told."""

    def __init__(self, text):
        ValueError.__init__(self, text)


class Nothing(LookupError):
    """What is asked for is not there."""

    def __init__(self, text):
        LookupError.__init__(self, text)


class TooMany(OverflowError):
    """There would be more of something than most."""

    def __init__(self, most):
        OverflowError.__init__(self, most)
        self.most = most
