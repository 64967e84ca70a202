"""What is a text, what is a word, and which words a text has. Both are lists of bytes."""

LONGEST_TEXT = 256
LONGEST_WORD = 32
BLANK = 32
FIRST_BYTE = 32
LAST_BYTE = 126
DIGIT_0 = 48
DIGIT_9 = 57
CAPITAL_A = 65
CAPITAL_Z = 90
SMALL_A = 97
SMALL_Z = 122


def is_text(text):
    if len(text) < 1 or len(text) > LONGEST_TEXT:
        return False
    return all([FIRST_BYTE <= byte and byte <= LAST_BYTE for byte in text])


def is_word(word):
    if len(word) < 1 or len(word) > LONGEST_WORD:
        return False
    return all([is_of_words(small(byte)) for byte in word])


def small(byte):
    if CAPITAL_A <= byte and byte <= CAPITAL_Z:
        return byte - CAPITAL_A + SMALL_A
    return byte


def is_of_words(byte):
    """Whether it is a digit or a letter, which is a small one: capitals have been made small before."""
    return (SMALL_A <= byte and byte <= SMALL_Z) or (DIGIT_0 <= byte and byte <= DIGIT_9)


def word_key(word):
    """The word as a key of words_of, the same for capital and small letters."""
    return tuple([small(byte) for byte in word])


def words_of(text):
    """A dict with each word of the text as a key."""
    words = {}
    row = []
    # The blank behind the text ends its last word as any other.
    for byte in text + [BLANK]:
        letter = small(byte)
        if is_of_words(letter):
            row.append(letter)
        elif len(row) > 0:
            words[tuple(row)] = True
            row = []
    return words
