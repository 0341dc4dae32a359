"""The calls on texts of the language; each stands by itself."""

from linewords.lines import first_wrong_line

MOST_BYTES = 16384


def check(text):
    if len(text) > MOST_BYTES:
        return [-1]
    return [first_wrong_line(text)]
