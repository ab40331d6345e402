"""What a line of calls has told so far: those spoken of, and the evidence."""

# A piece's kind is the number of the call that tells it.
SAME = 1
DIFFER = 2
LINK = 3
KEY = 4
SINGLE = 5
IF = 6
BOTH = 7

MOST_PEOPLE = 16
MOST_EVIDENCE = 30


class Papers:
    """people is how many are spoken of; each piece of evidence is a tuple: its kind, then its numbers as told."""

    def __init__(self):
        self.people = 0
        self.evidence = []
