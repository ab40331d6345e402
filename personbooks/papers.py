"""What a line of calls has told so far: those spoken of, and the evidence."""

MOST_PEOPLE = 16
MOST_EVIDENCE = 30


class Papers:
    """people is how many are spoken of; each piece of evidence is a tuple: its kind, then its numbers as told."""

    def __init__(self):
        self.people = 0
        self.evidence = []
