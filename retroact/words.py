"""The words of lines: numbers and paths, and the lines of a text that may have been cut off."""

DIGITS = "0123456789"
MOST_DIGITS = 10
MAIN_PATH = "main"


def number_of(word):
    """Return the number that a word is written for, or None if it is no number."""
    digits = word[1:] if word.startswith("-") else word
    if not 1 <= len(digits) <= MOST_DIGITS or not all([digit in DIGITS for digit in digits]):
        return None
    # `-0` and leading zeros would write a number in a second way.
    if digits[0] == "0" and word != "0":
        return None
    return int(word)


def numbers_of(words):
    """Return the tuple of the numbers of a list of words, or None if one of them is no number."""
    numbers = tuple([number_of(word) for word in words])
    return None if None in numbers else numbers


def path_of(word):
    """Return the path that a word is written for, or None if it is no path."""
    if word == MAIN_PATH:
        return ()
    return numbers_of(word.split("."))


def write_path(path):
    """Return the word for a path."""
    if path == ():
        return MAIN_PATH
    return ".".join([str(number) for number in path])


def complete_lines(text):
    """Return the list of the lines of a text that end with a newline."""
    return text.split("\n")[:-1]
