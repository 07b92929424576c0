"""The errors of Roundwright, all directly below RoundError."""


class RoundError(ValueError):
    """An error of this package; it is made of a message."""

    def __init__(self, message=""):
        ValueError.__init__(self, message)


def _words(words, told):
    # Only a string is put into the message: any value may be told, and some cannot be written out.
    return f"{words} ({told})" if isinstance(told, str) else words


class BadBytes(RoundError):
    """What should be a list of bytes is none."""


class BadColouring(RoundError):
    """What should be a colouring is none."""


class BadDeed(RoundError):
    """What should be a deed is none."""


class BadDeeds(RoundError):
    """A list of deeds is wrong: at tells where, or is None."""

    def __init__(self, at):
        super().__init__(_words("a list of deeds is wrong", at))
        self.at = at


class BadDraft(RoundError):
    """What should be a draft is none."""


class BadFront(RoundError):
    """What should be a front is none."""


class BadHouse(RoundError):
    """What should be a house with a disk is none."""


class BadHouses(RoundError):
    """What should be houses for a problem is none."""


class BadJournal(RoundError):
    """A journal is wrong: number tells the line, or is None."""

    def __init__(self, number):
        super().__init__(_words("a journal is wrong", number))
        self.number = number


class BadKind(RoundError):
    """What should be a kind of windows is none."""


class BadLabelling(RoundError):
    """What should be a labelling is none."""


class BadLabels(RoundError):
    """What should be a set of labels is none."""


class BadLead(RoundError):
    """A Lead is wrong: part tells which part, or is None."""

    def __init__(self, part):
        super().__init__(_words("a lead is wrong", part))
        self.part = part


class BadLetters(RoundError):
    """What should be a list of letters is none."""


class BadLog(RoundError):
    """A log is wrong: at tells where, or is None."""

    def __init__(self, at):
        super().__init__(_words("a log is wrong", at))
        self.at = at


class BadMap(RoundError):
    """What should be a map is none."""


class BadMarks(RoundError):
    """What should be a list of marks is none."""


class BadNames(RoundError):
    """What should be a naming is none."""


class BadNet(RoundError):
    """What should be a net is none."""


class BadNumber(RoundError):
    """A number is wrong: part tells which one."""

    def __init__(self, part):
        super().__init__(_words("a number is wrong", part))
        self.part = part


class BadOrder(RoundError):
    """What should be an order of labels is none."""


class BadPhrase(RoundError):
    """A text tells nothing of what is wanted."""


class BadPiece(RoundError):
    """What should be a piece is none."""


class BadProblem(RoundError):
    """A problem is wrong: part tells which part, or is None."""

    def __init__(self, part):
        super().__init__(_words("a problem is wrong", part))
        self.part = part


class BadProgram(RoundError):
    """A program is wrong: part tells which part, or is None."""

    def __init__(self, part):
        super().__init__(_words("a program is wrong", part))
        self.part = part


class BadSession(RoundError):
    """What should be a Session is none."""


class BadSizes(RoundError):
    """A set of sizes is wrong: part tells which part, or is None."""

    def __init__(self, part):
        super().__init__(_words("a set of sizes is wrong", part))
        self.part = part


class BadSpans(RoundError):
    """What should be a list of spans is none."""


class BadState(RoundError):
    """What should be a state is none."""


class BadTable(RoundError):
    """A table is wrong: part tells which part, or is None."""

    def __init__(self, part):
        super().__init__(_words("a table is wrong", part))
        self.part = part


class BadText(RoundError):
    """A text is wrong: at tells where, or is None."""

    def __init__(self, at):
        super().__init__(_words("a text is wrong", at))
        self.at = at


class BadTree(RoundError):
    """What should be a tree is none."""


class BadWeb(RoundError):
    """A web is wrong: part tells which part, or is None."""

    def __init__(self, part):
        super().__init__(_words("a web is wrong", part))
        self.part = part


class BadWindow(RoundError):
    """What should be a window is none."""


class BadWork(RoundError):
    """A work is wrong: part tells which part, or is None."""

    def __init__(self, part):
        super().__init__(_words("a work is wrong", part))
        self.part = part


class CannotCome(RoundError):
    """A deed cannot come: number tells which one."""

    def __init__(self, number):
        super().__init__(_words("a deed cannot come", number))
        self.number = number


class NoProgram(RoundError):
    """There is no program of so many rounds."""


class NotBending(RoundError):
    """A state does not bend both ways."""


class NotNow(RoundError):
    """What is asked cannot be done now."""


class TooMany(RoundError):
    """There are more than most of them."""

    def __init__(self, most):
        super().__init__(_words("there are too many", most))
        self.most = most
