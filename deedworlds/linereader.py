"""One line of a text, read sign by sign; what breaks it is refused where it stands."""

from deedworlds.errors import NoText


class LineReader:
    """A line, its row in its text, and how many of its signs were read."""

    def __init__(self, row, text):
        self.row = row
        self.text = text
        self.at = 0

    def sign(self):
        """The next sign, a text without signs at the end."""
        return self.text[self.at:self.at + 1]

    def stop(self):
        """Refuse the line: it goes no further as one of its kind."""
        raise NoText(self.row, self.at)

    def take(self, word):
        """Read just this word."""
        for sign in word:
            self.take_one_of(sign)

    def take_one_of(self, signs):
        """Read one of these signs, and tell it."""
        sign = self.sign()
        if sign == "" or sign not in signs:
            self.stop()
        self.at += 1
        return sign

    def finish(self):
        """Refuse the line, where signs are left."""
        if self.at < len(self.text):
            self.stop()
