"""What one instance stores."""


class Crew:
    """The pipes, their ages, and the number and the total output of the past days."""

    def __init__(self):
        self.created = False
        self.begin()

    def begin(self):
        """Have no pipes and no past days."""
        self.pipes = ()
        self.state = ()
        self.day_count = 0
        self.total_output = 0
