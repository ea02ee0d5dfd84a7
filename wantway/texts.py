"""Names and tags [4]."""

SMALL = "abcdefghijklmnopqrstuvwxyz"
GREAT = "ABCDEFGHIJKLMNOPQRSTUVWXYZ"
LONGEST = 8


def is_name(text):
    """True where a text is a name: one to eight small letters."""
    return is_spelt(text, SMALL)


def is_tag(text):
    """True where a text is a tag: one to eight great letters."""
    return is_spelt(text, GREAT)


def is_spelt(text, letters):
    """True where a text has one to eight signs, all of these letters."""
    if not isinstance(text, str):
        return False
    return 1 <= len(text) <= LONGEST and all([sign in letters for sign in text])
