"""The errors of the package; each keeps what it was made with."""


class OutError(ValueError):
    """The base class of errors that tell of a value or of a form."""


class BadOctets(OutError):
    """Octets were asked for: -1, or the index of the first item that is none."""

    def __init__(self, at):
        self.at = at


class BadForm(OutError):
    """A form was asked for."""

    def __init__(self, at):
        self.at = at


class BadHouse(OutError):
    """A house was asked for: -1, or the first of its parts that is not so."""

    def __init__(self, at):
        self.at = at


class BadPeople(OutError):
    """People were asked for: -1, or the index of the first who is no person."""

    def __init__(self, at):
        self.at = at


class BadRow(OutError):
    """A row was asked for: the first part that is not so."""

    def __init__(self, at):
        self.at = at


class BadText(OutError):
    """A text was asked for: the first line that is not so."""

    def __init__(self, at):
        self.at = at


class Refused(OutError):
    """This value is not what was asked for."""

    def __init__(self, at):
        self.at = at


class TooGreat(OutError):
    """There is more of something than may be looked at."""

    def __init__(self, most):
        self.most = most


class Broken(OutError):
    """Octets are no form: the place from which on they are none."""

    def __init__(self, at):
        self.at = at


class NotLet(OutError):
    """A row of news cannot be so, for the reason of this word."""

    def __init__(self, word):
        self.word = word


class NoRoom(KeyError):
    """This is no room of the house."""

    def __init__(self, room):
        self.room = room


class NoPassage(KeyError):
    """This is no passage of the house."""

    def __init__(self, passage):
        self.passage = passage


class NoPerson(KeyError):
    """This is no number of one of the people."""

    def __init__(self, person):
        self.person = person


class NoBeat(KeyError):
    """This is no beat."""

    def __init__(self, beat):
        self.beat = beat
