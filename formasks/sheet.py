"""What is told of one form."""


class Sheet:
    """A form's questions, nevers and rows, and the answers that are given."""

    def __init__(self):
        self.start_anew()

    def start_anew(self):
        """Make it a form with no questions, of which nothing is told."""
        # sizes, burdens, conditions and given have one entry for each question.
        self.sizes = []
        self.burdens = []
        self.conditions = []
        self.given = []
        self.nevers = []
        self.rows = []
        self.other = 0
