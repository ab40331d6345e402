"""The calls by their numbers; a piece of evidence has the number of the call that tells it as its kind."""

PERSON = 0
SAME = 1
DIFFER = 2
LINK = 3
KEY = 4
SINGLE = 5
IF = 6
BOTH = 7
DROP = 8
FITS = 9
RUN = 10
BOOKS = 11
VERDICT = 12
WHY = 13
WHYNOT = 14
CHECK = 15
CORE = 16
CLASH = 17
KNOWN = 18
LINKED = 19
VALUE = 20
TOLD = 21
WAYS = 22
