"""Taking items from a row of bytes, one behind another."""

from classfiles.refusals import demand


class Cursor:
    """A row of bytes and the place from which the next item is taken."""

    def __init__(self, content, place):
        self.content = content
        self.place = place

    def skip(self, size):
        """Steps over an item of so many bytes and answers where it begins."""
        start = self.place
        demand(start + size <= len(self.content), 1, start)
        self.place = start + size
        return start

    def unsigned(self, width):
        """Takes a number of so many bytes, the highest byte first."""
        start = self.skip(width)
        value = 0
        for byte in self.content[start:start + width]:
            value = value * 256 + byte
        return value
