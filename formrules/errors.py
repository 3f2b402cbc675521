"""The errors of the package: each is a FormError, and so a ValueError."""


class FormError(ValueError):
    """What all errors of the package have in common: called has the name of the class."""

    def __init__(self, message=""):
        ValueError.__init__(self, message)
        self.called = self.__class__.__name__


class BadAnswers(FormError):
    """Raised for: no list of answers, or one that its place does not have."""


class BadBook(FormError):
    """Raised for: no book."""


class BadCells(FormError):
    """Raised for: two books with unlike cells."""


class BadCount(FormError):
    """Raised for: no count that is expected there."""


class BadDeeds(FormError):
    """Raised for: no list of deeds."""


class BadEnding(FormError):
    """Raised for: no ending of the form."""


class BadExpression(FormError):
    """Raised for: no expression that is expected there."""


class BadForm(FormError):
    """Raised for: no name of a form that is expected there."""


class BadGoal(FormError):
    """Raised for: no goal."""


class BadHeads(FormError):
    """Raised for: no list of different heads."""


class BadInputs(FormError):
    """Raised for: no list of inputs."""


class BadKind(FormError):
    """Raised for: no kind."""


class BadKinds(FormError):
    """Raised for: a truth in one edition, and none in the other."""


class BadKnot(FormError):
    """Raised for: no knot of the expression."""


class BadLine(FormError):
    """Raised for: no line."""


class BadLot(FormError):
    """Raised for: no lot that is expected there."""


class BadMany(FormError):
    """Raised for: no number of rows that the form can have."""


class BadMost(FormError):
    """Raised for: no number of events."""


class BadName(FormError):
    """Raised for: no name."""


class BadNames(FormError):
    """Raised for: no names that are expected there."""


class BadNotation(FormError):
    """Raised for: no notation of the book."""


class BadParts(FormError):
    """Raised for: no parts that are expected there."""


class BadPath(FormError):
    """Raised for: a path that leads to no node."""


class BadPaths(FormError):
    """Raised for: no ascending tuple of different paths to nodes."""


class BadPlace(FormError):
    """Raised for: no part place of the form."""


class BadPlain(FormError):
    """Raised for: no plain scheme that is expected there."""


class BadRow(FormError):
    """Raised for: no row of whole numbers that is expected there."""


class BadScheme(FormError):
    """Raised for: no scheme."""


class BadSheet(FormError):
    """Raised for: no sheet of the form."""


class BadSheets(FormError):
    """Raised for: no sheets of the forms within."""


class BadSignature(FormError):
    """Raised for: no signature."""


class BadText(FormError):
    """Raised for no text, or for a text at the word where it goes wrong."""

    def __init__(self, at, wanted):
        FormError.__init__(self, f"no text that is expected, at {at}: wanted is {wanted}")
        self.at = at
        self.wanted = wanted


class BadTree(FormError):
    """Raised for: no tree."""


class BadUse(FormError):
    """Raised for: no own use."""


class BadWish(FormError):
    """Raised for: no wish."""


class BadWorth(FormError):
    """Raised for: no worth."""


class BadWriting(FormError):
    """Raised for: no writing."""


class NoPlain(FormError):
    """Raised for: a form without a plain scheme."""


class NoRows(FormError):
    """Raised for: a form without rows."""


class NoRule(FormError):
    """Raised for a form in which a part place sometimes sees more than always."""

    def __init__(self, place):
        FormError.__init__(self, f"no rule: unlike sights at {place}")
        self.place = place


class NotAlike(FormError):
    """Raised for: expressions that are not alike."""


class NotClear(FormError):
    """Raised for a read that has not just one binder."""

    def __init__(self, spot):
        FormError.__init__(self, f"not clear: the read at {spot}")
        self.spot = spot


class NotSame(FormError):
    """Raised for: expressions that are unlike in more than names."""


class NotWritten(FormError):
    """Raised for a form that cannot be written."""

    def __init__(self, name):
        FormError.__init__(self, f"not written: {name}")
        self.name = name


class NothingDone(FormError):
    """Raised for: nothing is left that could be taken back."""


class NothingUndone(FormError):
    """Raised for: nothing is left that could be done again."""


class OtherPlaces(FormError):
    """Raised for: two forms with unlike places."""


class TooMany(FormError):
    """Raised where more would come than may be."""

    def __init__(self, most):
        FormError.__init__(self, f"more than {most}")
        self.most = most
