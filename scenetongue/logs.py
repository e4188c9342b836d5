"""Logs: what is asked of a studio, from its begin to its end."""


class Logged:
    """A deed on its way: whatever is refused within, its begin and its end are both written."""

    def __init__(self, rows, word):
        self.rows = rows
        self.word = word

    def __enter__(self):
        self.rows.append(("begun", self.word))

    def __exit__(self, kind, value, trace):
        if kind is None:
            self.rows.append(("ended", self.word, True))
        else:
            self.rows.append(("ended", self.word, False))
