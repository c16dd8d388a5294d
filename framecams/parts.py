"""Parts of wishes and claims: names, and whether parts are of the kinds that are wanted."""

LETTERS = "abcdefghijklmnopqrstuvwxyz"
MOST_LETTERS = 12


def is_name(value):
    """Whether the value, whatever it is, is a name of 1 to 12 letters."""
    if not isinstance(value, str) or not 1 <= len(value) <= MOST_LETTERS:
        return False
    return all([letter in LETTERS for letter in value])


def fit(parts, tests):
    """Whether there are as many parts as tests, and each part, whatever it is, passes its own test."""
    if len(parts) != len(tests):
        return False
    for part, test in zip(parts, tests):
        if not test(part):
            return False
    return True
