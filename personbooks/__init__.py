"""One book for each person: which of those spoken of are one, by everything that's been told."""
