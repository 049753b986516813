"""A row of bytes that is read from its start on."""

from plainsettings.refusals import Malformed
from plainsettings.signs import END, is_blank


class Scan:
    """The bytes of a row, and how many of them have been read."""

    def __init__(self, row):
        self.row = row
        self.at = 0

    def sign(self):
        """The byte that comes, or END."""
        if self.at < len(self.row):
            return self.row[self.at]
        return END

    def step(self):
        """Takes the byte that comes; there must be one."""
        sign = self.sign()
        if sign == END:
            raise Malformed()
        self.at += 1
        return sign

    def takes(self, wanted):
        """Takes the byte that comes if it is the wanted one, and tells whether it was."""
        if self.sign() != wanted:
            return False
        self.at += 1
        return True

    def must_take(self, wanted):
        if not self.takes(wanted):
            raise Malformed()

    def skip_blanks(self):
        while is_blank(self.sign()):
            self.at += 1
