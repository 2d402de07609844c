"""Point [110]: texts of books and fractions, and what a text of each writes, just so."""

import unittest
from random import Random

from outlasts.bands import sureness
from outlasts.errors import NoBook, NoFraction, NoText
from outlasts.shares import worth
from outlasts.texts import book_text, fraction_text, read_book, read_fraction
from things import Asked, bad_books, late_forties, odd_things, plain_forties, random_books

BOOKS = {
    "0-7": ((0, 7, 0),),
    "3-12!1": ((3, 12, 1),),
    "0-7 3-12!1": ((0, 7, 0), (3, 12, 1)),
    "0-1!4 998-999 0-1!4": ((0, 1, 4), (998, 999, 0), (0, 1, 4)),
    "10-100!2 0-999!3": ((10, 100, 2), (0, 999, 3)),
}
FRACTIONS = {
    "0": (0, 1), "1": (1, 1), "-1": (-1, 1), "12": (12, 1), "-10": (-10, 1), "1/2": (1, 2), "-1/2": (-1, 2),
    "3/2": (3, 2), "10/3": (10, 3), "-100/7": (-100, 7), "1/10": (1, 10),
    "999999999998/999999999999": (999_999_999_998, 999_999_999_999), "-999999999999": (-999_999_999_999, 1),
}


def by_figures(text):
    """A number of any length, figure by figure."""
    number = 0
    for figure in text:
        number = number * 10 + "0123456789".index(figure)
    return number


def no_texts():
    return [0, 1, 7, (0, 7, 0), ((0, 7, 0),), (1, 2), ["0-7"], ("0-7",), {"0-7": 1}, ["1"], ("1/2",)] + [
        thing for thing in odd_things() if thing != "0-7!1"
    ]


class BookText(Asked):
    def test_by_hand(self):
        for text, book in BOOKS.items():
            self.assertEqual(book_text(book), text)
            self.assertEqual(read_book(text), book)

    def test_read_back_it_is_the_same(self):
        for book in random_books(110) + plain_forties() + late_forties():
            told = read_book(book_text(book))
            self.assertEqual(repr(told), repr(book))

    def test_of_forty(self):
        book = ((998, 999, 4),) * 40
        text = "998-999!4 " * 39 + "998-999!4"
        self.assertEqual(book_text(book), text)
        self.assertEqual(read_book(text), book)

    def test_no_book(self):
        for book in bad_books():
            self.assert_refused(NoBook, book_text, book)

    def test_by_name(self):
        self.assertEqual(book_text(book=((0, 7, 0),)), "0-7")
        self.assertEqual(read_book(text="0-7"), ((0, 7, 0),))


class ReadBook(Asked):
    def test_no_text(self):
        for text in (
            "", " ", "-", "!", "0", "7", "0-", "-7", "0-7!", "0-7!!1", "0-7!1!1", "0-7-8", "0--7", "--", "0-7!1-2",
            "00-7", "0-07", "0-7!01", "01-7", "0-7!00", "+0-7", "0-+7", "-0-7", "0--7", "0-7!+1", "0-7!-1",
            " 0-7", "0-7 ", "0-7  0-7", "  ", "0-7\t0-7", "\t0-7", "0-7\t", "0-7\n", "0-7\n0-7", "0 -7", "0- 7",
            "0-7 !1", "0-7! 1", "0-7!0", "0-7!5", "0-7!9", "0-7!10", "5-5", "6-5", "5-5!1", "0-0", "0-1000",
            "0-1000!1", "999-1000", "0-999999999999", "0-7,0-7", "(0, 7, 0)", "a-7", "0-a", "0-7!a", "0-7!1 x",
            "x 0-7!1", "0-7!1 5-5", "0_0-7", "0-7_0", "1_0-17", "0x1-7", "1e1-12", "none", "0.0-7", "0-7?1",
            "0-7!1 0-7!0", "0-7!1 0-7!5", "9" * 200 + "-" + "9" * 199,
        ):
            with self.subTest(text=text):
                self.assert_refused(NoText, read_book, text)

    def test_forty_one_spans(self):
        self.assertEqual(len(read_book(" ".join(["0-1"] * 40))), 40)
        self.assert_refused(NoText, read_book, " ".join(["0-1"] * 41))
        self.assert_refused(NoText, read_book, " ".join(["0-1!1"] * 42))

    def test_other_things(self):
        for thing in no_texts():
            with self.subTest(thing=thing):
                self.assert_refused(NoText, read_book, thing)

    def test_numbers_of_many_figures(self):
        for many in (60, 61, 5_000):
            self.assert_refused(NoText, read_book, "0-" + "9" * many)
            self.assert_refused(NoText, read_book, "0" * many + "-7")

    def test_just_what_is_written(self):
        source = Random(111)
        signs = "0123-! 14"
        read = 0
        for _ in range(20_000):
            text = "".join(source.choice(signs) for _ in range(source.randint(1, 8)))
            try:
                book = read_book(text)
            except NoText:
                continue
            read += 1
            self.assertEqual(book_text(book), text)
        self.assertGreater(read, 50)


class FractionText(Asked):
    def test_by_hand(self):
        for text, fraction in FRACTIONS.items():
            self.assertEqual(fraction_text(fraction), text)
            self.assertEqual(read_fraction(text), fraction)
            self.assertEqual([type(part) for part in read_fraction(text)], [int, int])

    def test_numbers_of_many_figures(self):
        for many in (1, 2, 59, 60, 61, 119, 120, 121, 180, 4_299, 4_300, 4_301, 9_000):
            for figures in ("9" * many, "1" + "0" * (many - 1), ("1" + "0" * 61 + "7" + "0" * 58) * (many // 120 + 1)):
                number = by_figures(figures)
                for text, fraction in ((figures, (number, 1)), ("-" + figures, (-number, 1)),
                                       (f"1/{figures}" if number > 1 else "1", (1, number))):
                    self.assertTrue(fraction_text(fraction) == text)
                    self.assertTrue(read_fraction(text) == fraction)

    def test_what_was_told_may_be_handed_in_again_whatever_its_size(self):
        book = tuple((0, 1 + at, 1) for at in range(40))
        told = worth(book, ((499_999_999_979, 999_999_999_989),) * 40)
        # More figures than Python itself writes at once.
        self.assertGreater(told[1], 10 ** 9_000)
        text = fraction_text(told)
        self.assertTrue(read_fraction(text) == told)
        self.assertEqual(by_figures(text.partition("/")[2]) == told[1], True)
        told = sureness(40, (499_999_999_979, 999_999_999_989), 3, 30)
        self.assertEqual(fraction_text(told), f"{told[0]}/{told[1]}")

    def test_no_fraction(self):
        wrong = [
            (2, 4), (0, 2), (0, 5), (1, 0), (0, 0), (1, -2), (-1, -2), (3, 3), (1,), (1, 2, 3), [1, 2], (True, 2),
            (1, True), (False, 1), ("1", "2"), (None, 1), 0, 1, -1, "1/2", "0",
        ]
        for thing in wrong + odd_things():
            with self.subTest(thing=thing):
                self.assert_refused(NoFraction, fraction_text, thing)

    def test_by_name(self):
        self.assertEqual(fraction_text(fraction=(1, 2)), "1/2")
        self.assertEqual(read_fraction(text="1/2"), (1, 2))


class ReadFraction(Asked):
    def test_no_text(self):
        for text in (
            "", " ", "-", "/", "-/", "1/", "/2", "-1/", "-/2", "--1", "+1", "+1/2", "1/+2", "1/-2", "-1/-2", "-0",
            "0/1", "0/5", "-0/5", "00", "01", "-01", "1/02", "01/2", "1/0", "0/0", "-1/0", "2/1", "-2/1", "1/1",
            "2/4", "-2/4", "6/4", "3/3", "10/15", " 1", "1 ", "1 /2", "1/ 2", "1/2 ", "- 1", "\t1", "1\n", "1/2\n",
            "1/2/3", "1//2", "1.0", "0.5", "1e3", "1_0", "0x1", "a", "1/a", "a/2", "none", "1,2", "(1, 2)", "1-2",
            "1/2 1/2", "1-", "00/1", "0" * 5_000, "1/" + "0" * 5_000, "2/" + "4" * 5_000, "-" + "0" * 61,
        ):
            with self.subTest(text=text[:20]):
                self.assert_refused(NoText, read_fraction, text)

    def test_other_things(self):
        for thing in no_texts():
            with self.subTest(thing=thing):
                self.assert_refused(NoText, read_fraction, thing)

    def test_just_what_is_written(self):
        source = Random(112)
        read = 0
        for _ in range(20_000):
            text = "".join(source.choice("0123469-/ ") for _ in range(source.randint(1, 6)))
            try:
                fraction = read_fraction(text)
            except NoText:
                continue
            read += 1
            self.assertEqual(fraction_text(fraction), text)
        self.assertGreater(read, 500)


if __name__ == "__main__":
    unittest.main()
