"""Texts of books and of fractions, and what a text of each writes."""

from outlasts.books import CUT_OFF, check_book, is_book
from outlasts.errors import NoFraction, NoText
from outlasts.fractions import is_fraction

# Python itself writes and reads only some thousands of figures at once, so numbers go by pieces of so many.
PIECE_FIGURES = 60
PIECE = 10 ** 60


def number_text(number):
    """Tell the figures of a whole number from 0 on."""
    pieces = []
    rest = number
    while rest >= PIECE:
        rest, piece = divmod(rest, PIECE)
        pieces.append(str(piece).zfill(PIECE_FIGURES))
    pieces.append(str(rest))
    return "".join(reversed(pieces))


def is_number_text(text):
    """Tell of a text whether it writes a whole number from 0 on: figures, without a nought ahead but 0 itself."""
    if text == "" or not all(["0" <= sign <= "9" for sign in text]):
        return False
    return text == "0" or not text.startswith("0")


def read_number(text):
    """Tell the whole number that a text writes."""
    if not is_number_text(text):
        raise NoText()
    head = len(text) % PIECE_FIGURES
    number = int(text[:head]) if head > 0 else 0
    for at in range(head, len(text), PIECE_FIGURES):
        number = number * PIECE + int(text[at:at + PIECE_FIGURES])
    return number


def span_text(span):
    """Tell the text of a span."""
    begin, until, end = span
    if end == CUT_OFF:
        return f"{begin}-{until}"
    return f"{begin}-{until}!{end}"


def book_text(book):
    """Tell the text of a book: its spans with one blank between each two."""
    check_book(book)
    return " ".join([span_text(span) for span in book])


def fraction_text(fraction):
    """Tell the text of a fraction, one with bottom 1 by its top alone."""
    if not is_fraction(fraction):
        raise NoFraction()
    top, bottom = fraction
    sign = "-" if top < 0 else ""
    below = "" if bottom == 1 else "/" + number_text(bottom)
    return sign + number_text(abs(top)) + below


def read_span(word):
    """Tell the three numbers that a word of a book's text writes, its end 0 where none is written."""
    begin, dash, rest = word.partition("-")
    until, mark, end = rest.partition("!")
    return (read_number(begin), read_number(until), read_number(end) if mark == "!" else CUT_OFF)


def read_book(text):
    """Tell the book that a text writes."""
    if not isinstance(text, str):
        raise NoText()
    book = tuple([read_span(word) for word in text.split(" ")])
    # Written again it is the same text, or it was written otherwise than a book is.
    if not is_book(book) or book_text(book) != text:
        raise NoText()
    return book


def read_fraction(text):
    """Tell the fraction that a text writes."""
    if not isinstance(text, str):
        raise NoText()
    top, line, bottom = text.removeprefix("-").partition("/")
    size = read_number(top)
    fraction = (-size if text.startswith("-") else size, read_number(bottom) if line == "/" else 1)
    # Written again it is the same text, or it was written otherwise than a fraction is.
    if not is_fraction(fraction) or fraction_text(fraction) != text:
        raise NoText()
    return fraction
