"""One world of a book."""

from cellbookyard.rules import still_table


class World:
    """Rows of cells, and the table of the rule by which they step on."""

    def __init__(self, count):
        self.rows = [0] * count
        self.table = still_table()

    def has_row(self, y):
        """Whether there is a row y."""
        return y < len(self.rows)
