"""The bytes that lists of signs and patterns are written with."""

LINE_END = 10
BLANK = 32
BANG = 33
INK = 35
STAR = 42
COMMA = 44
DOT = 46
DIGIT_0 = 48
DIGIT_1 = 49
DIGIT_9 = 57
EQUALS = 61
CAPITAL_A = 65
CAPITAL_Z = 90
SMALL_A = 97
SMALL_Z = 122
BRACE = 123
END_BRACE = 125
