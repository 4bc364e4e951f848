"""Cells: what a run binds to names, with the looks at it."""


class Cell:
    """A cell with its grade, its content, and the number of looks at it so far."""

    def __init__(self, grade, content):
        self.grade = grade
        self.content = content
        self.looked = 0
        self._asked_at = None
        self._has_room = True

    def has_room(self):
        """Whether the cell may be looked at once more or oftener."""
        # On large scales a grade tells its room slowly, so it is asked once for each number of looks.
        if self._asked_at != self.looked:
            self._asked_at = self.looked
            self._has_room = self.grade.room(self.looked)
        return self._has_room
