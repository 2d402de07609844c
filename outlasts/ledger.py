"""A ledger: it is told of things by names, and tells the book as known behind each telling."""

from outlasts.books import CUT_OFF, LAST_UNTIL, MOST_SPANS, check_kind, check_time, is_kind
from outlasts.errors import NoDay, NoDeed, NoKind, NoName, NoNumber
from outlasts.fractions import is_whole
from outlasts.shares import share_at

LAST_DAY = 9999
MOST_SIGNS = 6
BEGIN = "begin"
SEEN = "seen"
ENDED = "ended"
MEND = "mend"
DROP = "drop"


def is_name(thing):
    """Tell of anything whether it is a name."""
    if not isinstance(thing, str) or not 1 <= len(thing) <= MOST_SIGNS:
        return False
    return all(["a" <= sign <= "z" for sign in thing])


def check_day(day):
    """Refuse what is no day."""
    if not is_whole(day) or not 0 <= day <= LAST_DAY:
        raise NoDay()


def check_kind_or_cut(end):
    """Refuse what is neither a kind of end nor 0."""
    if not is_whole(end) or not (end == CUT_OFF or is_kind(end)):
        raise NoKind()


def stands_behind(thing, deed):
    """Tell what stands of a thing behind a deed, of what stood ahead of it; None where the thing is not there.

    What stands is (begin, watched, last, end), last None where the thing has no span yet.
    """
    word = deed[0]
    if word == DROP:
        return None
    if word == BEGIN:
        return (deed[2], deed[3], None, CUT_OFF)
    end = CUT_OFF if word == SEEN else deed[3]
    return (thing[0], thing[1], deed[2], end)


def put(things, name, thing):
    """Let a thing stand under a name in a dict of things, or none where it is None."""
    if thing is not None:
        things[name] = thing
    elif name in things:
        del things[name]


def span_of(thing):
    """Tell the span of a thing that has one."""
    begin, watched, last, end = thing
    return (watched - begin, last - begin, end)


def book_of(things):
    """Tell the book of a dict of things, None where there are no spans or too many."""
    spans = [span_of(things[name]) for name in sorted(things) if things[name][2] is not None]
    if not 1 <= len(spans) <= MOST_SPANS:
        return None
    return tuple(spans)


class Ledger:
    """What was told of things, deed by deed."""

    def __init__(self):
        self.tellings = []
        self.things = {}
        # What stood under the name of each telling ahead of it, so that it can be undone.
        self.ahead = []

    def begin(self, name, day, watched=None):
        """A thing begins on a day, and is watched from a day on that is not less, left out the same."""
        if not is_name(name) or name in self.things:
            raise NoName()
        check_day(day)
        since = day if watched is None else watched
        check_day(since)
        # So there is at least one day on which it may be seen.
        if not 0 <= since - day < LAST_UNTIL:
            raise NoDay()
        self.tell((BEGIN, name, day, since))

    def seen(self, name, day):
        """A thing lasts on a day."""
        self.check_there(name)
        self.check_last_day(name, day)
        begin, watched, last, end = self.things[name]
        if end != CUT_OFF or (last is not None and last >= day):
            raise NoDeed()
        self.tell((SEEN, name, day))

    def ended(self, name, day, end):
        """A thing ended on a day by a kind of end."""
        self.check_there(name)
        self.check_last_day(name, day)
        check_kind(end)
        begin, watched, last, known = self.things[name]
        if known != CUT_OFF or (last is not None and last > day):
            raise NoDeed()
        self.tell((ENDED, name, day, end))

    def mend(self, name, day, end):
        """A thing ended on a day by a kind of end, or, 0, was seen last then, whatever was told of this."""
        self.check_there(name)
        self.check_last_day(name, day)
        check_kind_or_cut(end)
        self.tell((MEND, name, day, end))

    def drop(self, name):
        """A thing is not there any more."""
        self.check_there(name)
        self.tell((DROP, name))

    def undo(self):
        """Undo the last deed that stands."""
        if len(self.tellings) == 0:
            raise NoDeed()
        deed = self.tellings.pop()
        put(self.things, deed[1], self.ahead.pop())

    def book(self, told=None):
        """Tell the book as known after so many tellings, left out all; None where there is none."""
        if told is None:
            return book_of(self.things)
        if not is_whole(told) or not 0 <= told <= len(self.tellings):
            raise NoNumber()
        things = {}
        for deed in self.tellings[:told]:
            put(things, deed[1], stands_behind(things.get(deed[1]), deed))
        return book_of(things)

    def story(self, time):
        """Tell the list of (number, share) for each telling behind which the share beyond a time is another one."""
        check_time(time)
        things = {}
        lines = []
        share = None
        for at, deed in enumerate(self.tellings):
            put(things, deed[1], stands_behind(things.get(deed[1]), deed))
            known = book_of(things)
            behind = None if known is None else share_at(known, time)
            if behind != share:
                lines.append((at + 1, behind))
            share = behind
        return lines

    def names(self):
        """Tell the list of the names that are there, rising."""
        return sorted(self.things)

    def size(self):
        """Tell how many things and how many tellings there are."""
        return (len(self.things), len(self.tellings))

    def twin(self):
        """Tell another ledger of the same tellings, which goes on by itself."""
        other = Ledger()
        for deed in list(self.tellings):
            other.tell(deed)
        return other

    def tell(self, deed):
        """Let a deed stand that was looked at."""
        name = deed[1]
        thing = self.things.get(name)
        self.tellings.append(deed)
        self.ahead.append(thing)
        put(self.things, name, stands_behind(thing, deed))

    def check_there(self, name):
        """Refuse what is no name of a thing that is there."""
        if not is_name(name) or name not in self.things:
            raise NoName()

    def check_last_day(self, name, day):
        """Refuse what can't be the last day of a thing."""
        check_day(day)
        begin, watched, last, end = self.things[name]
        if day <= watched or day - begin > LAST_UNTIL:
            raise NoDay()

    def __len__(self):
        return len(self.tellings)

    def __eq__(self, other):
        return isinstance(other, Ledger) and self.tellings == other.tellings

    def __repr__(self):
        return f"Ledger({len(self.things)} things, {len(self.tellings)} tellings)"
