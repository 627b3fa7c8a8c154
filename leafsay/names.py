"""Names, numbers and values of a form, as they stand in what is written."""

from leafsay.errors import NoText

LETTERS = "abcdefghijklmnopqrstuvwxyz"
FIGURES = "0123456789"
PLACES = "0123"
MOST_LETTERS = 8
# A number of nineteen figures, with no nought ahead, is 10 ** 18 or more.
MOST_FIGURES = 18


def is_name(word):
    if not 1 <= len(word) <= MOST_LETTERS:
        return False
    return all([sign in LETTERS for sign in word])


def is_number(word):
    if not 1 <= len(word) <= MOST_FIGURES:
        return False
    if word[0] == "0" and word != "0":
        return False
    # Not `isdigit`, which knows the figures of other scripts too.
    return all([sign in FIGURES for sign in word])


def show_value(k, name):
    return f"{k}.{name}"


def read_value(word):
    if len(word) < 3 or word[0] not in PLACES or word[1] != "." or not is_name(word[2:]):
        raise NoText(f"{word!r} writes no value of a form")
    return (int(word[0]), word[2:])
