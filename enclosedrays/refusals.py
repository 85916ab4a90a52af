"""What is raised where a call is refused, or where a ray ends."""


class NotTaken(Exception):
    """An argument is out of what is taken: -1."""


class TextFault(Exception):
    """The system's text is at fault: -3, the place and the kind."""

    def __init__(self, place, kind):
        Exception.__init__(self)
        self.place = place
        self.kind = kind


class TooGreat(Exception):
    """A number to be told is too great: -6."""


class Lost(Exception):
    """The ray doesn't get through an element or to a plane, or that is left open: at refuses it, -5."""

    def __init__(self, ending):
        Exception.__init__(self)
        self.ending = ending
