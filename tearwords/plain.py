"""Plain values: what several modules ask of integers and strings."""

from tearwords.errors import NoCount, NoWord

SMALL_LETTERS = "abcdefghijklmnopqrstuvwxyz"
MOST_SIGNS = 200


def is_whole(thing, low, high):
    """True for an integer from low to high; for Python a bool is an integer, here it is none."""
    if isinstance(thing, bool) or not isinstance(thing, int):
        return False
    return low <= thing <= high


def is_text(thing, signs, most):
    """True for a string of at most so many signs, all of them among the given ones."""
    if not isinstance(thing, str) or len(thing) > most:
        return False
    return all([sign in signs for sign in thing])


def is_ascending(parts):
    """True if each part is less than the next one; the parts can be compared."""
    return all([parts[at] < parts[at + 1] for at in range(len(parts) - 1)])


def in_order(words):
    """The list of the words, or readings, in their order: fewer signs first, those with equally many as strings."""
    # Sorting is stable, so those with equally many signs stay in their order as strings.
    return sorted(sorted(words), key=len)


def strings_of(letters, least, most):
    """The list of all strings of least to most of the letters."""
    equally_long = [""]
    found = []
    for size in range(most + 1):
        if size > 0:
            equally_long = [text + letter for text in equally_long for letter in letters]
        if size >= least:
            found.extend(equally_long)
    return found


def need_word(word, letters):
    """Raise NoWord for what is no word of these letters that may be passed."""
    if not is_text(word, letters, MOST_SIGNS):
        raise NoWord(f"a word is a string of at most {MOST_SIGNS} of the letters {letters}")


def need_count(count, low, high):
    """Raise NoCount for what is no integer from low to high."""
    if not is_whole(count, low, high):
        raise NoCount(f"an integer from {low} to {high} is needed")
