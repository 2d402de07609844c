"""A desk: it keeps a ledger, is told lines, and answers with texts."""

from outlasts.books import check_kind, check_time
from outlasts.errors import NoLine
from outlasts.kinds import came_at
from outlasts.ledger import Ledger
from outlasts.shares import share_at, time_of
from outlasts.texts import book_text, fraction_text, is_number_text, number_text, read_number

DONE = "ok"
NOTHING = "none"
HALF = (1, 2)
MOST_FIGURES = 6


def begin_thing(ledger, name, day, watched=None):
    """Answer `begin NAME DAY` and `begin NAME DAY DAY`."""
    ledger.begin(name, day, watched)
    return DONE


def see_thing(ledger, name, day):
    """Answer `seen NAME DAY`."""
    ledger.seen(name, day)
    return DONE


def end_thing(ledger, name, day, end):
    """Answer `ended NAME DAY KIND`."""
    ledger.ended(name, day, end)
    return DONE


def mend_thing(ledger, name, day, end):
    """Answer `mend NAME DAY KIND`."""
    ledger.mend(name, day, end)
    return DONE


def drop_thing(ledger, name):
    """Answer `drop NAME`."""
    ledger.drop(name)
    return DONE


def undo_deed(ledger):
    """Answer `undo`."""
    ledger.undo()
    return DONE


def tell_book(ledger, told=None):
    """Answer `book` and `book N`."""
    book = ledger.book(told)
    return NOTHING if book is None else book_text(book)


def tell_share(ledger, time):
    """Answer `share TIME`."""
    # Refused where there is no book, too.
    check_time(time)
    book = ledger.book()
    return NOTHING if book is None else fraction_text(share_at(book, time))


def tell_came(ledger, end, time):
    """Answer `came KIND TIME`."""
    # Refused where there is no book, too.
    check_kind(end)
    check_time(time)
    book = ledger.book()
    return NOTHING if book is None else fraction_text(came_at(book, end, time))


def tell_half(ledger):
    """Answer `half`."""
    book = ledger.book()
    time = None if book is None else time_of(book, HALF)
    return NOTHING if time is None else number_text(time)


def tell_story(ledger, time):
    """Answer `story TIME`."""
    return joined([step_text(number, share) for number, share in ledger.story(time)])


def step_text(number, share):
    """Tell the text of a number and a share of a story."""
    return number_text(number) + ":" + (NOTHING if share is None else fraction_text(share))


def tell_names(ledger):
    """Answer `names`."""
    return joined(ledger.names())


def tell_size(ledger):
    """Answer `size`."""
    return joined([number_text(many) for many in ledger.size()])


def joined(words):
    """Tell a list of words with blanks between, or that there are none."""
    return NOTHING if len(words) == 0 else " ".join(words)


ANSWERS = {
    "begin": begin_thing, "seen": see_thing, "ended": end_thing, "mend": mend_thing, "drop": drop_thing,
    "undo": undo_deed, "book": tell_book, "share": tell_share, "came": tell_came, "half": tell_half,
    "story": tell_story, "names": tell_names, "size": tell_size,
}
# How many words may stand behind the first one.
BEHIND = {
    "begin": (2, 3), "seen": (2,), "ended": (3,), "mend": (3,), "drop": (1,),
    "undo": (0,), "book": (0, 1), "share": (1,), "came": (2,), "half": (0,),
    "story": (1,), "names": (0,), "size": (0,),
}
# Behind these stands a name first; all else behind any is numbers.
WITH_NAME = ("begin", "seen", "ended", "mend", "drop")


def read_line(line):
    """Tell (word, handed): the first word of a line, and the list of the name and numbers behind it."""
    if not isinstance(line, str):
        raise NoLine()
    word, *behind = line.split(" ")
    if word not in BEHIND or len(behind) not in BEHIND[word]:
        raise NoLine()
    names = 1 if word in WITH_NAME else 0
    if "" in behind[:names]:
        raise NoLine()
    return (word, behind[:names] + [read_short_number(text) for text in behind[names:]])


def read_short_number(text):
    """Tell the number that a word of a line writes."""
    if not is_number_text(text) or len(text) > MOST_FIGURES:
        raise NoLine()
    return read_number(text)


class Desk:
    """A ledger behind lines of text."""

    def __init__(self):
        self.ledger = Ledger()

    def say(self, line):
        """Do what a line wants and tell the answer."""
        word, handed = read_line(line)
        answer = ANSWERS[word]
        return answer(self.ledger, *handed)
