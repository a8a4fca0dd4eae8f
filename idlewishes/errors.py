"""What is raised: one class for each kind of argument that is refused.

The messages are fixed texts: an argument that is refused can be of any kind,
and perhaps can't be shown.
"""


class WishError(ValueError):
    """Any argument that is refused."""


class BadMachine(WishError):
    """A value that is no machine; path leads to what is wrong in it."""

    def __init__(self, path):
        WishError.__init__(self, "this is no machine")
        self.path = path


class BadWish(WishError):
    """A value that is no wish; path leads to what is wrong in it."""

    def __init__(self, path):
        WishError.__init__(self, "this is no wish")
        self.path = path


class BadPath(WishError):
    """A value that is no path, or no lot of paths, of the wish."""

    def __init__(self, value):
        WishError.__init__(self, "this leads to no part of the wish")
        self.value = value


class BadRun(WishError):
    """A value that is no run of the machine."""

    def __init__(self, value):
        WishError.__init__(self, "this is no run of the machine")
        self.value = value


class BadNumber(WishError):
    """A value that is none of those that can stand there."""

    def __init__(self, value):
        WishError.__init__(self, "this cannot stand here")
        self.value = value


class BadPaper(WishError):
    """A paper that does not hold; word is the word of what is wrong."""

    def __init__(self, word):
        WishError.__init__(self, "this paper does not hold")
        self.word = word


class BadRow(WishError):
    """A value that is no begin of the machine; number is the first wrong one's, or None."""

    def __init__(self, number):
        WishError.__init__(self, "the machine cannot begin so")
        self.number = number


class BadMenu(WishError):
    """A value that is no menu; number is that of the first one that is no wish, or None."""

    def __init__(self, number):
        WishError.__init__(self, "this is no menu of wishes")
        self.number = number


class BadLog(WishError):
    """A value that is no log of the machine; place is that of the first wrong pair, or None."""

    def __init__(self, place):
        WishError.__init__(self, "this is no log of the machine")
        self.place = place


class BadText(WishError):
    """A text that cannot be read from the word of this number in this line on."""

    def __init__(self, line, word):
        WishError.__init__(self, "this text cannot be read")
        self.line = line
        self.word = word


class TooGreat(OverflowError):
    """What is asked for is greater than the most that is done."""

    def __init__(self, most):
        OverflowError.__init__(self, "this is too great")
        self.most = most
