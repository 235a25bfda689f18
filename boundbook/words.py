"""Words, and how they are wrapped to a width (point 5)."""

MOST_WORDS = 4
MOST_CHARACTERS = 8
CHARACTERS = "ABCDEFGHIJKLMNOPQRSTUVWXYZabcdefghijklmnopqrstuvwxyz0123456789.,:;!?'()/"


def is_word(text):
    """Return whether a text is a word."""
    if not 1 <= len(text) <= MOST_CHARACTERS:
        return False
    return all([character in CHARACTERS for character in text])


def are_words(words):
    """Return whether these texts are words, and not too many of them."""
    return len(words) <= MOST_WORDS and all([is_word(word) for word in words])


def longest(words):
    """Return the length of the longest word, 0 if there is none."""
    return max([len(word) for word in words], default=0)


def length_of(words):
    """Return the length of the text of the words."""
    return len(" ".join(words))


def wrap(words, width):
    """Return the lines of the words at this width, each a tuple, or None if a word is too long."""
    if longest(words) > width:
        return None
    lines = []
    line = ()
    for word in words:
        # Without a word in the line there is no line yet that the word could be put into.
        if line and length_of(line) + 1 + len(word) > width:
            lines.append(line)
            line = ()
        line = line + (word,)
    if line:
        lines.append(line)
    return lines


def line_count(words, width):
    """Return how many lines the words have at this width, or None if a word is too long."""
    lines = wrap(words, width)
    if lines is None:
        return None
    return len(lines)


def narrowest(words, lines):
    """Return the least width at which the words have at most so many lines, or None."""
    if not words:
        return 1
    if lines < 1:
        return None
    width = max(1, longest(words))
    # It ends: at the length of their text all words stand in one line.
    while line_count(words, width) > lines:
        width += 1
    return width
