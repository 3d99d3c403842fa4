"""Texts: a row cut into its words, and a number read from a word."""

from purse.errors import NoRow

FIGURES = "0123456789"
MOST_FIGURES = 13


def read_words(row):
    words = row.split(" ")
    # Two blanks together, a blank at an end, and a text without signs each leave an empty word.
    if "" in words:
        raise NoRow(f"no row: {row!r}")
    return words


def is_number(word):
    if word.startswith("0"):
        return word == "0"
    return 1 <= len(word) <= MOST_FIGURES and all([sign in FIGURES for sign in word])


def read_number(word):
    # Looked at sign by sign, for int by itself would take signs and blanks ahead too.
    if not is_number(word):
        raise NoRow(f"no number: {word!r}")
    return int(word)
