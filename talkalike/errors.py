"""The errors of the program. Each of them tells its word and the place that it is about."""


class TalkError(ValueError):
    """The base class of all errors of the program."""

    def __init__(self, word, place=None):
        # The message leaves the place out: a place may be a number that is too long to be written.
        ValueError.__init__(self, word)
        self.word = word
        self.place = place


class BadPattern(TalkError):

    def __init__(self, place=None):
        TalkError.__init__(self, "BadPattern", place)


class TooManyPatterns(TalkError):

    def __init__(self, place=None):
        TalkError.__init__(self, "TooManyPatterns", place)


class TooManyStates(TalkError):

    def __init__(self, place=None):
        TalkError.__init__(self, "TooManyStates", place)


class TooManyClasses(TalkError):

    def __init__(self, place=None):
        TalkError.__init__(self, "TooManyClasses", place)


class BadKinds(TalkError):

    def __init__(self, place=None):
        TalkError.__init__(self, "BadKinds", place)


class BadRequest(TalkError):

    def __init__(self, place=None):
        TalkError.__init__(self, "BadRequest", place)


class BadLine(TalkError):

    def __init__(self, place=None):
        TalkError.__init__(self, "BadLine", place)


class NotAnObject(TalkError):

    def __init__(self, place=None):
        TalkError.__init__(self, "NotAnObject", place)


class BadPairs(TalkError):

    def __init__(self, place=None):
        TalkError.__init__(self, "BadPairs", place)


class BadGoal(TalkError):

    def __init__(self, place=None):
        TalkError.__init__(self, "BadGoal", place)


class BadCondition(TalkError):

    def __init__(self, place=None):
        TalkError.__init__(self, "BadCondition", place)


class UnknownName(TalkError):

    def __init__(self, place=None):
        TalkError.__init__(self, "UnknownName", place)


class UnknownStation(TalkError):

    def __init__(self, place=None):
        TalkError.__init__(self, "UnknownStation", place)


class UnknownRequest(TalkError):

    def __init__(self, place=None):
        TalkError.__init__(self, "UnknownRequest", place)


class BadRule(TalkError):

    def __init__(self, place=None):
        TalkError.__init__(self, "BadRule", place)


class BadSource(TalkError):

    def __init__(self, place=None):
        TalkError.__init__(self, "BadSource", place)


class BadCount(TalkError):

    def __init__(self, place=None):
        TalkError.__init__(self, "BadCount", place)


class BadName(TalkError):

    def __init__(self, place=None):
        TalkError.__init__(self, "BadName", place)


class DuplicateName(TalkError):

    def __init__(self, place=None):
        TalkError.__init__(self, "DuplicateName", place)


class OtherRequests(TalkError):

    def __init__(self, place=None):
        TalkError.__init__(self, "OtherRequests", place)


class NotGiven(TalkError):

    def __init__(self, place=None):
        TalkError.__init__(self, "NotGiven", place)


class TooManyKinds(TalkError):

    def __init__(self, place=None):
        TalkError.__init__(self, "TooManyKinds", place)


class BadPair(TalkError):

    def __init__(self, place=None):
        TalkError.__init__(self, "BadPair", place)


class NoSuchChange(TalkError):

    def __init__(self, place=None):
        TalkError.__init__(self, "NoSuchChange", place)


class TooManyChanges(TalkError):

    def __init__(self, place=None):
        TalkError.__init__(self, "TooManyChanges", place)


class BadCarry(TalkError):

    def __init__(self, place=None):
        TalkError.__init__(self, "BadCarry", place)
