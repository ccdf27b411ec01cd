"""The tags of constants that the program asks for by name."""

TEXT = 1
INTEGER = 3
FLOATING = 4
LONG = 5
DOUBLE = 6
CLASS = 7
STRING = 8
METHOD = 10
NAMED = 12
