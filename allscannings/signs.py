"""The bytes that texts are made of."""

FIRST_BYTE = 32
LAST_BYTE = 126
DIGIT_0 = 48
DIGIT_9 = 57
LETTER_A = 97
LETTER_Z = 122
