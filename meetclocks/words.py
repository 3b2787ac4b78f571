"""How bytes become texts and words, and which words are names."""

# The signs that names, bounds and asks are made of, and the two that part lines and words.
SIGNS = "\n .<=>0123456789ABCDEFGHIJKLMNOPQRSTUVWXYZabcdefghijklmnopqrstuvwxyz"
# Stands for every other byte: nothing that is taken has it, so a word with it is never taken.
STRANGE = "?"
KEPT_WORDS = ("clock", "signal", "machine", "place", "edge", "when", "set", "give", "take")
LONGEST_NAME = 15


def text_of(numbers):
    """Answer the bytes as a text."""
    signs = {}
    for sign in SIGNS:
        signs[ord(sign)] = sign
    return "".join([signs.get(number, STRANGE) for number in numbers])


def words_of(line):
    """Answer the words of a line; spaces alone part them, however many."""
    return [word for word in line.split(" ") if word != ""]


def is_name(word):
    """Tell whether the word may name something."""
    if len(word) > LONGEST_NAME or word in KEPT_WORDS:
        return False
    return word[0].isalpha() and word.isalnum()
