"""The bytes that mean something in a written hedge."""

LINE_FEED = 10
BLANK = 32
QUOTE = 39
LEFT_PAREN = 40
RIGHT_PAREN = 41
BACKSLASH = 92
LAST_PLAIN = 126
DIGIT_0 = 48
DIGIT_9 = 57
LETTER_A = 97
LETTER_Z = 122
