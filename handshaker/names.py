"""Names and key words."""

LETTERS = "abcdefghijklmnopqrstuvwxyz"
LONGEST = 12
KEY_WORDS = (
    "cell", "thread", "local", "set", "put", "say", "later", "pause", "if", "else", "end", "repeat",
    "atomic", "within", "late", "choose", "or", "and", "not", "rest", "retry", "undo",
    "semaphore", "barrier", "channel", "exchange", "take", "give", "meet", "send", "receive", "swap",
)


def is_name(word):
    """Return True if a string is a name."""
    if len(word) < 1 or len(word) > LONGEST or word in KEY_WORDS:
        return False
    return all(letter in LETTERS for letter in word)
