"""Names and key words."""

KEY_WORDS = (
    "effect", "actor", "state", "on", "set", "if", "else", "end", "repeat", "send", "parent", "self",
    "child", "spawn", "as", "call", "then", "stop", "fail", "and", "or", "not", "rest",
)
SMALL_LETTERS = "abcdefghijklmnopqrstuvwxyz"
LONGEST_NAME = 12


def is_name(text):
    """Tell if a string is a name."""
    if not 1 <= len(text) <= LONGEST_NAME or text in KEY_WORDS:
        return False
    return all([letter in SMALL_LETTERS for letter in text])


def are_names(texts):
    """Tell if all strings of a list are names, each another one."""
    return len(set(texts)) == len(texts) and all([is_name(text) for text in texts])
