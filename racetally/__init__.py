"""A series of races scored: racetally.desk.answers is the way in."""
