"""Points [111] and [112]: the lines of a desk and their answers, and what is refused in which order."""

import unittest

from outlasts.desk import Desk
from outlasts.errors import NoDay, NoDeed, NoKind, NoLine, NoName, NoNumber, NoTime
from outlasts.kinds import came_at
from outlasts.ledger import Ledger
from outlasts.shares import share_at, time_of
from outlasts.texts import fraction_text, read_book
from things import Asked, odd_things

LINES = (
    "begin b 10", "begin a 3 5", "seen b 14", "ended a 10 2", "mend b 12 1", "begin c 0 0", "mend c 9 0",
)
ASKED = ("book", "book 0", "share 4", "came 2 9", "half", "story 3", "names", "size")


def desk(*lines):
    made = Desk()
    for line in lines:
        assert made.say(line) == "ok", line
    return made


class Deeds(Asked):
    def test_their_answer_is_ok(self):
        made = Desk()
        for line in LINES + ("drop a", "undo", "undo"):
            self.assertEqual(made.say(line), "ok")
        self.assertEqual(made.say("size"), "3 6")

    def test_they_are_done(self):
        made = desk("begin a 3")
        self.assertEqual((made.say("names"), made.say("size"), made.say("book")), ("a", "1 1", "none"))
        made.say("seen a 5")
        self.assertEqual(made.say("book"), "0-2")
        made.say("ended a 6 4")
        self.assertEqual(made.say("book"), "0-3!4")
        made.say("mend a 9 0")
        self.assertEqual(made.say("book"), "0-6")
        made.say("mend a 1002 3")
        self.assertEqual(made.say("book"), "0-999!3")
        made.say("undo")
        self.assertEqual(made.say("book"), "0-6")
        made.say("begin b 3 6")
        made.say("seen b 7")
        self.assertEqual((made.say("book"), made.say("names"), made.say("size")), ("0-6 3-4", "a b", "2 6"))
        made.say("drop a")
        self.assertEqual((made.say("book"), made.say("names"), made.say("size")), ("3-4", "b", "1 7"))

    def test_begin_with_and_without_a_day_of_watching(self):
        made = desk("begin a 5", "seen a 9", "begin b 5 5", "seen b 9", "begin c 5 7", "seen c 9")
        self.assertEqual(made.say("book"), "0-4 0-4 2-4")

    def test_names_may_be_the_words_of_lines(self):
        made = desk("begin begin 0", "begin none 0", "begin undo 0", "drop begin")
        self.assertEqual(made.say("names"), "none undo")


class Questions(Asked):
    def test_by_hand(self):
        made = desk(*LINES)
        for line, wanted in (
            ("book", "2-7!2 0-2!1 0-9"), ("book 0", "none"), ("book 1", "none"), ("book 3", "0-4"),
            ("book 4", "2-7!2 0-4"), ("book 7", "2-7!2 0-2!1 0-9"), ("names", "a b c"), ("size", "3 7"),
            # At 2 two are watched and one ends, at 7 two and one.
            ("share 0", "1"), ("share 1", "1"), ("share 2", "1/2"), ("share 6", "1/2"), ("share 7", "1/4"),
            ("share 9999", "1/4"), ("came 1 1", "0"), ("came 1 2", "1/2"), ("came 2 7", "1/4"), ("came 2 6", "0"),
            ("came 3 9999", "0"), ("half", "2"), ("story 1", "3:1"), ("story 2", "3:1 5:0 7:1/2"),
            ("story 7", "3:1 4:0 7:1/4"),
        ):
            with self.subTest(line=line):
                self.assertEqual(made.say(line), wanted)

    def test_of_an_empty_desk(self):
        made = Desk()
        for line, wanted in (("book", "none"), ("book 0", "none"), ("share 5", "none"), ("came 1 5", "none"),
                             ("half", "none"), ("story 5", "none"), ("names", "none"), ("size", "0 0")):
            self.assertEqual(made.say(line), wanted)

    def test_without_a_book(self):
        made = desk("begin a 5")
        for line, wanted in (("book", "none"), ("share 5", "none"), ("came 4 5", "none"), ("half", "none"),
                             ("story 5", "none"), ("names", "a"), ("size", "1 1")):
            self.assertEqual(made.say(line), wanted)

    def test_with_too_many_spans(self):
        made = Desk()
        for at in range(41):
            name = "abcdefg"[at // 7] + "abcdefg"[at % 7]
            made.say(f"begin {name} 0")
            made.say(f"ended {name} 5 1")
        for line, wanted in (("book", "none"), ("share 5", "none"), ("came 1 5", "none"), ("half", "none"),
                             ("story 5", "2:0 82:none"), ("size", "41 82")):
            self.assertEqual(made.say(line), wanted)
        self.assertEqual(made.say("book 80"), " ".join(["0-5!1"] * 40))

    def test_half_none_where_there_is_none(self):
        made = desk("begin a 0", "seen a 5")
        self.assertEqual(made.say("half"), "none")
        made.say("ended a 7 1")
        self.assertEqual(made.say("half"), "7")
        made.say("begin b 0")
        made.say("seen b 999")
        self.assertEqual(made.say("half"), "7")
        made.say("begin c 0")
        made.say("seen c 999")
        self.assertEqual(made.say("half"), "none")

    def test_a_share_none_in_a_story(self):
        made = desk("begin a 0", "seen a 5", "drop a", "begin a 0", "ended a 5 1")
        self.assertEqual(made.say("story 5"), "2:1 3:none 5:0")
        self.assertEqual(made.say("story 4"), "2:1 3:none 5:1")

    def test_they_change_nothing(self):
        made = desk(*LINES)
        first = [made.say(line) for line in ASKED]
        for _ in range(2):
            self.assertEqual([made.say(line) for line in ASKED], first)

    def test_against_the_modules(self):
        made, ledger = Desk(), Ledger()
        for line in LINES:
            made.say(line)
            word, name, *numbers = line.split(" ")
            getattr(ledger, word)(name, *map(int, numbers))
            book = ledger.book()
            if book is not None:
                self.assertEqual(read_book(made.say("book")), book)
                self.assertEqual(made.say("half"), str(time_of(book, (1, 2))).lower())
                for time in (0, 2, 4, 7, 999, 9_999):
                    self.assertEqual(made.say(f"share {time}"), fraction_text(share_at(book, time)))
                    for end in (1, 2, 3, 4):
                        self.assertEqual(made.say(f"came {end} {time}"), fraction_text(came_at(book, end, time)))

    def test_answers_are_texts(self):
        made = desk(*LINES)
        for line in ASKED:
            self.assertIs(type(made.say(line)), str)
        self.assertEqual(made.say(line="size"), "3 7")


class Refused(Asked):
    def assert_kept(self, error, made, *lines):
        """Refused by just this class, and all that the desk tells stays."""
        before = [made.say(line) for line in ASKED]
        for line in lines:
            with self.subTest(line=line):
                self.assert_refused(error, made.say, line)
        self.assertEqual([made.say(line) for line in ASKED], before)


class NoLines(Refused):
    def test_another_first_word(self):
        self.assert_kept(
            NoLine, desk(*LINES), "", "x", "Begin a 5", "SIZE", "begins a 5", "end a 12 1", "ok", "none", "5", "a", "twin",
            "rows", "5 size", "names\n", "\tnames", "size\t", "see b 15", "-", "mean 5", "repr", "len", "__len__",
        )

    def test_another_number_of_words(self):
        self.assert_kept(
            NoLine, desk(*LINES), "begin", "begin d", "begin d 5 5 5", "seen", "seen b", "seen b 15 15", "ended", "ended b",
            "ended b 15", "ended b 15 1 1", "mend", "mend b", "mend b 15", "mend b 15 1 1", "drop", "drop a b",
            "undo 1", "undo undo", "book 1 1", "share", "share 1 1", "came", "came 1", "came 1 1 1", "half 1", "story",
            "story 1 1", "names 1", "names a", "size 1",
        )

    def test_empty_words_and_blanks(self):
        self.assert_kept(
            NoLine, desk(*LINES), " ", "  ", " size", "size ", "size  ", "drop ", "drop  a", " drop a", "drop a ",
            "seen  15", "seen b  15", "seen b ", "begin  5", "begin d  5", "begin d 5 ", "mend  15 1", "mend b  1",
            "mend b 15 ", "ended  15 1", "book ", "share ", "came  1", "came 1 ", "story ", "undo ", "begin  ",
        )

    def test_numbers_that_are_not_written_as_one(self):
        made = desk(*LINES)
        for wrong in ("05", "00", "+5", "-5", "-0", "5.0", "1e1", "0x5", "five", "5a", "a5", "5\t", "\t5", "5\n", "5_0",
                      "1/2", "none", "None", "!", "1000000", "9999999", "0000005", "1" * 30, "9" * 350):
            self.assert_kept(
                NoLine, made, f"begin d {wrong}", f"begin d {wrong} 5", f"begin d 5 {wrong}", f"seen b {wrong}",
                f"ended b {wrong} 1", f"ended b 15 {wrong}", f"mend b {wrong} 1", f"mend b 15 {wrong}", f"book {wrong}",
                f"share {wrong}", f"came {wrong} 5", f"came 1 {wrong}", f"story {wrong}",
            )

    def test_other_things_than_texts(self):
        made = desk(*LINES)
        for thing in odd_things() + [0, 1, ["size"], ("size",), {"size": "size"}, ("seen", "b", 15)]:
            with self.subTest(thing=thing):
                self.assert_refused(NoLine, made.say, thing)
        self.assertEqual(made.say("size"), "3 7")

    def test_ahead_of_all_else(self):
        # No such name, no such day, no such kind, no deed to undo.
        self.assert_kept(NoLine, Desk(), "seen B x", "seen b 05", "ended b 99999 07", "undo 0", "book -1",
                         "came 9 1000000", "came 09 10000", "begin B 10000 05", "mend ABC 10000 +1")


class Order(Refused):
    def test_no_name(self):
        self.assert_kept(
            NoName, desk(*LINES), "begin a 5", "begin a 99999 3", "begin A 5", "begin abcdefg 99999", "begin d5 5",
            "begin d\t 5", "begin \n 5", "begin 5 5", "seen d 15", "seen D 99999", "ended d 99999 9", "mend d 99999 9",
            "drop d", "drop D", "drop 5", "ended b! 15 1",
        )

    def test_no_day(self):
        self.assert_kept(
            NoDay, desk(*LINES), "begin d 10000", "begin d 999999", "begin d 5 4", "begin d 5 10000", "begin d 0 999",
            "seen b 10", "seen b 9", "seen b 1010", "seen b 10000", "ended b 10 9", "ended b 1010 1", "mend b 10 9",
            "mend b 1010 0", "mend b 999999 5", "seen a 5", "ended a 5 1",
        )

    def test_no_kind(self):
        self.assert_kept(
            NoKind, desk(*LINES), "ended b 15 0", "ended b 15 5", "ended a 15 0", "ended a 15 999999", "mend b 15 5",
            "mend a 999 6", "came 0 5", "came 5 5", "came 5 10000", "came 999999 999999",
        )

    def test_no_deed(self):
        self.assert_kept(
            NoDeed, desk(*LINES), "seen b 15", "seen b 12", "ended a 15 1", "seen a 6", "seen c 9", "seen c 8",
            "ended c 8 1",
        )
        self.assert_kept(NoDeed, Desk(), "undo")

    def test_no_number(self):
        self.assert_kept(NoNumber, desk(*LINES), "book 8", "book 9", "book 999999")
        self.assert_kept(NoNumber, desk("begin a 5", "undo", "begin a 5", "seen a 9", "begin b 1"), "book 4")
        self.assertEqual(desk(*LINES).say("book 7"), "2-7!2 0-2!1 0-9")

    def test_no_time(self):
        self.assert_kept(NoTime, desk(*LINES), "share 10000", "share 999999", "came 1 10000", "story 10000", "story 999999")

    def test_where_there_is_no_book_too(self):
        for lines in ((), ("begin a 5",)):
            made = desk(*lines)
            for line in ("share 10000", "came 1 10000", "story 10000"):
                self.assert_refused(NoTime, made.say, line)
            for line in ("came 0 5", "came 5 5", "came 0 10000"):
                self.assert_refused(NoKind, made.say, line)
            for line in ("book 2", "book 999999"):
                self.assert_refused(NoNumber, made.say, line)

    def test_six_figures_are_a_number(self):
        self.assert_kept(NoDay, desk(*LINES), "begin d 100000", "seen b 999999")
        self.assert_kept(NoLine, desk(*LINES), "begin d 1000000", "seen b 1000000")


class Two(Asked):
    def test_have_nothing_in_common(self):
        one, other = Desk(), Desk()
        one.say("begin a 5")
        self.assertEqual((one.say("names"), other.say("names"), other.say("size")), ("a", "none", "0 0"))
        other.say("begin b 5")
        other.say("seen b 9")
        one.say("undo")
        self.assertEqual((one.say("size"), other.say("size"), other.say("book")), ("0 0", "1 2", "0-4"))
        self.assertEqual(Desk().say("size"), "0 0")


if __name__ == "__main__":
    unittest.main()
