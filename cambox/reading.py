"""Reading the one list in which the calls stand one behind another."""


class Reader:
    """A place in the list of calls: what lies before it has been read."""

    def __init__(self, calls):
        self.calls = calls
        self.at = 0

    def has_more(self):
        """Tell whether anything is left to read."""
        return self.at < len(self.calls)

    def number(self):
        """Read one number."""
        found = self.calls[self.at]
        self.at += 1
        return found

    def row(self):
        """Read how many numbers a row has, and give these as a list of their own."""
        length = self.number()
        start = self.at
        self.at += length
        return self.calls[start:self.at]
