"""The numbers by which a format's list tells its pieces."""

LITERAL = 0
NUMBER = 1
WORD = 2
ALTERNATIVES = 3
OPTIONAL = 4
REPEAT = 5
