"""Cells: what a run binds to names, with the looks at it."""


class Cell:
    """A cell with its grade, its content, and the number of looks at it so far."""

    def __init__(self, grade, content):
        self.grade = grade
        self.content = content
        self.looked = 0

    def has_room(self):
        """Whether the cell may be looked at once more or oftener."""
        return self.grade.room(self.looked)
