"""The refusals, in three families: each stands straight under its own."""


class Refused(ValueError):
    """The family of what isn't as it is wanted. Never raised itself."""


class Barred(LookupError):
    """The family of what isn't there, or doesn't go together. Never raised itself."""


class Beyond(ArithmeticError):
    """The family of what is too much. Never raised itself."""


class BadGear(Refused):
    """It is no GEAR."""

    def __init__(self, why):
        self.why = why


class BadTerm(Refused):
    """It is no TERM of the GEAR."""

    def __init__(self, why):
        self.why = why


class BadSum(Refused):
    """It is no SUM of the GEAR."""

    def __init__(self, why):
        self.why = why


class BadSizes(Refused):
    """They are no SIZES of the GEAR."""

    def __init__(self, why):
        self.why = why


class BadArrays(Refused):
    """They are no ARRAYS by the SIZES."""

    def __init__(self, why):
        self.why = why


class BadNumber(Refused):
    """It is no FRACTION, or not the number that is wanted."""

    def __init__(self, why):
        self.why = why


class BadName(Refused):
    """It is no NAME, or they are not NAMES as they are wanted."""

    def __init__(self, why):
        self.why = why


class BadPlan(Refused):
    """It is no PLAN of the TERM."""

    def __init__(self, why):
        self.why = why


class BadDefinition(Refused):
    """It is no DEFINITION of the BOX."""

    def __init__(self, why):
        self.why = why


class BadDeed(Refused):
    """It is no DEED."""

    def __init__(self, why):
        self.why = why


class BadStep(Refused):
    """The STEP of this number, from 0, can't stand there."""

    def __init__(self, number):
        self.number = number


class BadLine(Refused):
    """This line, from 1, can't stand there; 0 of what is no text."""

    def __init__(self, line):
        self.line = line


class NoBox(Barred):
    """The GEAR has no BOX of this name."""

    def __init__(self, name):
        self.name = name


class NoName(Barred):
    """No PAIR is kept by this name."""

    def __init__(self, name):
        self.name = name


class NotDefined(Barred):
    """The BOX of this name has no DEFINITION."""

    def __init__(self, name):
        self.name = name


class Unfit(Barred):
    """By these names the two don't fit together."""

    def __init__(self, others):
        self.others = others


class Ring(Barred):
    """These BOXES would come to themselves."""

    def __init__(self, boxes):
        self.boxes = boxes


class NotSo(Barred):
    """This BOX hasn't its MOVE of this number, from 0."""

    def __init__(self, box, number):
        self.box = box
        self.number = number


class TooGreat(Beyond):
    """It comes to more than this many."""

    def __init__(self, most):
        self.most = most


class Full(Beyond):
    """This many are kept already, and no more can be."""

    def __init__(self, most):
        self.most = most
