"""threadslide/words.py: points 2 and 3 of the document."""

import inspect
import unittest

from threadslide import words
from threadslide.words import fields_of, head_word, is_link, is_marked, link_word, number_word, told_by

GREATEST = 10 ** 60 - 1
NUMBERS = (0, 1, -1, 2, -2, 3, -3, 7, -7, 400, -400, 10 ** 16 + 1, -(10 ** 16) - 1,
           10 ** 30, -(10 ** 30), GREATEST - 1, GREATEST, 1 - GREATEST, -GREATEST)
PLACES = (0, 1, 2, 3, 7, 398, 399, 400, 10 ** 16 + 1, 10 ** 30, GREATEST)
MANY = (0, 1, 2, 3, 4, 19, 20, 21, 398, 399, 400, 10 ** 16 + 1, 10 ** 30)
PARAMETERS = {
    "number_word": ["n"],
    "link_word": ["place"],
    "head_word": ["many", "marked"],
    "is_link": ["word"],
    "told_by": ["word"],
    "fields_of": ["head"],
    "is_marked": ["head"],
}


class WordsCase(unittest.TestCase):
    def assert_whole(self, told, wanted):
        """The number that is wanted, and not True, False or a float that equals it."""
        self.assertIs(type(told), int)
        self.assertEqual(told, wanted)


class NumberTest(WordsCase):
    def test_words_of_single_numbers(self):
        for n, word in ((0, 0), (1, 2), (2, 4), (21, 42), (-1, -2), (-2, -4), (-21, -42)):
            with self.subTest(n=n):
                self.assert_whole(number_word(n), word)

    def test_words_of_long_numbers(self):
        self.assert_whole(number_word(10 ** 30), int("2" + "0" * 30))
        self.assert_whole(number_word(-(10 ** 30)), -int("2" + "0" * 30))
        self.assert_whole(number_word(GREATEST), int("1" + "9" * 59 + "8"))
        self.assert_whole(number_word(-GREATEST), -int("1" + "9" * 59 + "8"))

    def test_the_word_of_sixty_figures_has_one_more(self):
        self.assertEqual(len(str(GREATEST)), 60)
        self.assertEqual(len(str(number_word(GREATEST))), 61)

    def test_a_numbers_word_is_no_link(self):
        for n in NUMBERS:
            with self.subTest(n=n):
                self.assertIs(is_link(number_word(n)), False)

    def test_a_numbers_word_tells_the_number(self):
        for n in NUMBERS:
            with self.subTest(n=n):
                self.assert_whole(told_by(number_word(n)), n)


class LinkTest(WordsCase):
    def test_words_of_single_links(self):
        for place, word in ((0, 1), (1, 3), (2, 5), (21, 43), (399, 799)):
            with self.subTest(place=place):
                self.assert_whole(link_word(place), word)

    def test_words_of_links_to_far_places(self):
        self.assert_whole(link_word(10 ** 30), int("2" + "0" * 29 + "1"))
        self.assert_whole(link_word(GREATEST), int("1" + "9" * 60))

    def test_a_links_word_is_a_link(self):
        for place in PLACES:
            with self.subTest(place=place):
                self.assertIs(is_link(link_word(place)), True)

    def test_a_links_word_tells_the_place(self):
        for place in PLACES:
            with self.subTest(place=place):
                self.assert_whole(told_by(link_word(place)), place)

    def test_a_link_is_not_the_word_of_the_number_of_its_place(self):
        for place in PLACES:
            self.assertNotEqual(link_word(place), number_word(place))


class AnyWordTest(WordsCase):
    def test_odd_words_are_links(self):
        for word in (1, 3, 5, 10 ** 30 + 1, GREATEST, 2 * GREATEST + 1, -1, -3, -5, -GREATEST, -(2 * GREATEST) - 1):
            with self.subTest(word=word):
                self.assertIs(is_link(word), True)

    def test_even_words_are_none(self):
        for word in (0, 2, 4, 6, 10 ** 30, 2 * GREATEST, -2, -4, -6, -(10 ** 30), -2 * GREATEST):
            with self.subTest(word=word):
                self.assertIs(is_link(word), False)

    def test_half_of_a_word_is_rounded_down(self):
        for word, half in ((0, 0), (1, 0), (2, 1), (3, 1), (4, 2), (5, 2)):
            with self.subTest(word=word):
                self.assert_whole(told_by(word), half)

    def test_half_of_a_word_below_nought_is_rounded_down(self):
        for word, half in ((-1, -1), (-2, -1), (-3, -2), (-4, -2), (-5, -3)):
            with self.subTest(word=word):
                self.assert_whole(told_by(word), half)

    def test_half_of_a_long_word_is_exact(self):
        self.assert_whole(told_by(GREATEST), int("4" + "9" * 59))
        self.assert_whole(told_by(-GREATEST), -int("5" + "0" * 59))
        self.assert_whole(told_by(2 * GREATEST + 1), GREATEST)
        self.assert_whole(told_by(-(2 * GREATEST) - 1), -(10 ** 60))

    def test_every_small_word_is_made_again_from_what_it_tells(self):
        for word in range(-1000, 1001):
            made = link_word(told_by(word)) if is_link(word) else number_word(told_by(word))
            self.assert_whole(made, word)


class HeadTest(WordsCase):
    def test_heads_that_are_not_marked(self):
        for many, head in ((0, 0), (1, 4), (2, 8), (3, 12), (20, 80), (399, 1596)):
            with self.subTest(many=many):
                self.assert_whole(head_word(many, False), head)

    def test_heads_that_are_marked(self):
        for many, head in ((0, 2), (1, 6), (2, 10), (3, 14), (20, 82), (399, 1598)):
            with self.subTest(many=many):
                self.assert_whole(head_word(many, True), head)

    def test_how_many_fields_a_head_has(self):
        for head, many in ((0, 0), (2, 0), (4, 1), (6, 1), (8, 2), (10, 2), (1596, 399), (1598, 399)):
            with self.subTest(head=head):
                self.assert_whole(fields_of(head), many)

    def test_whether_a_head_is_marked(self):
        for head, marked in ((0, False), (2, True), (4, False), (6, True), (8, False), (10, True), (1598, True)):
            with self.subTest(head=head):
                self.assertIs(is_marked(head), marked)

    def test_a_head_tells_what_it_was_made_of(self):
        for many in MANY:
            for marked in (False, True):
                with self.subTest(many=many, marked=marked):
                    head = head_word(many, marked)
                    self.assert_whole(fields_of(head), many)
                    self.assertIs(is_marked(head), marked)

    def test_a_head_is_no_link(self):
        for many in MANY:
            for marked in (False, True):
                with self.subTest(many=many, marked=marked):
                    self.assertIs(is_link(head_word(many, marked)), False)


class InterfaceTest(unittest.TestCase):
    def test_each_function_stands_in_this_file_with_its_arguments(self):
        for name, parameters in PARAMETERS.items():
            with self.subTest(name):
                function = getattr(words, name)
                self.assertTrue(inspect.isfunction(function))
                self.assertEqual(function.__module__, "threadslide.words")
                self.assertEqual(function.__name__, name)
                self.assertEqual(list(inspect.signature(function).parameters), parameters)


if __name__ == "__main__":
    unittest.main()
