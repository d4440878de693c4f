"""The one fault of a text that is no game."""

TEXT_TOO_LONG = 1
NO_TOKEN = 2
NOT_ALLOWED = 3
TOO_MANY = 4
LABEL_TWICE = 5
NUMBER_TOO_SMALL = 7
FORM_TOO_LONG = 10
NO_CHANCE = 11
OTHER_LABELS = 14
TOO_MANY_STATIONS = 15


class Fault(Exception):
    """Why a text is no game: a code, and the place where it shows."""

    def __init__(self, code, place):
        self.code = code
        self.place = place
