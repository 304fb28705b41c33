"""Rows of text: how they are read, and how fractions and lists of names are written."""

from roundcede.errors import Unclear

FORMS = {
    "house": ("NAME",),
    "pact": ("GIVER", "TAKER", "PART", "FIRST", "LAST"),
    "loss": ("HOUSE", "DAY", "AMOUNT"),
    "back": (),
    "deeds": (),
    "paper": ("HOUSE", "DAY"),
    "shares": ("HOUSE", "DAY"),
    "coins": ("HOUSE", "DAY", "AMOUNT"),
    "rounds": ("HOUSE", "DAY", "AMOUNT", "MANY"),
    "borne": ("HOUSE", "DAY"),
    "change": ("HOUSE", "DAY", "GIVER", "TAKER", "PART", "FIRST", "LAST"),
    "shut": ("GIVER", "TAKER", "PART", "FIRST", "LAST"),
}
NUMBERS = ("PART", "FIRST", "LAST", "DAY", "AMOUNT", "MANY")
FIGURES = "0123456789"
MOST_FIGURES = 13


def read_number(word):
    if not all([sign in FIGURES for sign in word]):
        raise Unclear(f"{word!r} is no number")
    if len(word) > MOST_FIGURES or len(word) > 1 and word[0] == "0":
        raise Unclear(f"{word!r} is a number of another form")
    return int(word)


def read_word(kind, word):
    return read_number(word) if kind in NUMBERS else word


def parse(row):
    words = row.split(" ")
    # Two blanks together, a blank at an end and the empty row all leave an empty word.
    if "" in words:
        raise Unclear("a blank too few or too many")
    first = words[0]
    if first not in FORMS:
        raise Unclear(f"unknown first word {first!r}")
    form = FORMS[first]
    if len(words) != len(form) + 1:
        raise Unclear("a word too few or too many")
    return [first] + [read_word(kind, word) for kind, word in zip(form, words[1:])]


def shown(one):
    top = one[0]
    bottom = one[1]
    return f"{top}/{bottom}"


def listed(names, texts):
    return ", ".join([f"{name} {text}" for name, text in zip(names, texts)])
