"""threadslide/chains.py: point 5 of the document."""

import inspect
import unittest

from model import GREATEST
from threadslide import chains
from threadslide.chains import hung, led


def link(place):
    return 2 * place + 1


def hung_all(row, ats):
    for at in ats:
        row = hung(row, at)
    return row


def chain_of(row, head):
    """The cells of a head's chain in order, and the word at its end."""
    cells = []
    word = row[head]
    while word % 2 == 1:
        cells.append((word - 1) // 2)
        word = row[cells[-1]]
    return cells, word


# A door of two fields, a box of one, a box of none, a box of three.
#      0  1        2        3  4        5  6   7        8   9
ROW = [8, link(3), link(6), 4, link(6), 0, 12, link(6), 42, link(3)]


class HungTest(unittest.TestCase):
    def test_a_field_is_hung_up_by_exchanging(self):
        self.assertEqual(hung(ROW, 1), [8, 4, link(6), link(1), link(6), 0, 12, link(6), 42, link(3)])

    def test_a_field_behind_the_head(self):
        self.assertEqual(hung(ROW, 9), [8, link(3), link(6), link(9), link(6), 0, 12, link(6), 42, 4])

    def test_a_field_of_the_same_box(self):
        self.assertEqual(hung(ROW, 7), [8, link(3), link(6), 4, link(6), 0, link(7), 12, 42, link(3)])

    def test_a_field_that_leads_to_the_door(self):
        self.assertEqual(hung([0, 4, 1], 2), [link(2), 4, 0])
        self.assertEqual(hung([4, 1], 1), [3, 4])

    def test_a_head_that_is_marked_keeps_its_word_at_the_end(self):
        self.assertEqual(hung([4, 5, 6, 8], 1), [4, 6, 3, 8])

    def test_several_fields_one_by_one(self):
        first = hung(ROW, 2)
        self.assertEqual(first, [8, link(3), 12, 4, link(6), 0, link(2), link(6), 42, link(3)])
        second = hung(first, 4)
        self.assertEqual(second, [8, link(3), 12, 4, link(2), 0, link(4), link(6), 42, link(3)])
        third = hung(second, 7)
        self.assertEqual(third, [8, link(3), 12, 4, link(2), 0, link(7), link(4), 42, link(3)])

    def test_the_one_hung_up_last_comes_first(self):
        for order in ((2, 4, 7), (7, 4, 2), (4, 7, 2), (4, 2, 7)):
            with self.subTest(order=order):
                self.assertEqual(chain_of(hung_all(ROW, order), 6), (list(reversed(order)), 12))

    def test_chains_of_two_heads_at_once(self):
        row = hung_all(ROW, (1, 2, 9, 4, 7))
        self.assertEqual(chain_of(row, 3), ([9, 1], 4))
        self.assertEqual(chain_of(row, 6), ([7, 4, 2], 12))
        self.assertEqual((row[0], row[5], row[8]), (8, 0, 42))


class LedTest(unittest.TestCase):
    def test_a_head_without_a_chain_stays_as_it_is(self):
        for head in (0, 3, 5, 6):
            for place in (0, 3, 6, 400, GREATEST):
                with self.subTest(head=head, place=place):
                    self.assertEqual(led(ROW, head, place), ROW)

    def test_a_chain_of_one(self):
        self.assertEqual(led(hung(ROW, 1), 3, 5), [8, link(5), link(6), 4, link(6), 0, 12, link(6), 42, link(3)])

    def test_a_chain_of_many(self):
        row = hung_all(ROW, (4, 2, 7))
        self.assertEqual(led(row, 6, 4), [8, link(3), link(4), 4, link(4), 0, 12, link(4), 42, link(3)])

    def test_led_to_the_head_itself_the_row_is_as_ahead(self):
        for order in ((2,), (2, 4), (7, 2, 4)):
            with self.subTest(order=order):
                self.assertEqual(led(hung_all(ROW, order), 6, 6), ROW)

    def test_led_to_the_place_0(self):
        self.assertEqual(led(hung(ROW, 9), 3, 0), ROW[:9] + [1])

    def test_a_field_that_is_not_hung_up_still_leads_to_the_head(self):
        row = led(hung_all(ROW, (2, 7)), 6, 8)
        self.assertEqual(row, [8, link(3), link(8), 4, link(6), 0, 12, link(8), 42, link(3)])

    def test_the_chain_of_another_head_stays(self):
        row = hung_all(ROW, (1, 2, 9, 4, 7))
        first = led(row, 3, 1)
        self.assertEqual(chain_of(first, 6), ([7, 4, 2], 12))
        self.assertEqual(led(first, 6, 2), [8, link(1), link(2), 4, link(2), 0, 12, link(2), 42, link(1)])
        self.assertEqual(led(led(row, 6, 2), 3, 1), led(first, 6, 2))

    def test_a_head_that_is_marked_gets_its_own_word_again(self):
        self.assertEqual(led(hung([4, 5, 6, 8], 1), 2, 7), [4, link(7), 6, 8])

    def test_a_far_place(self):
        self.assertEqual(led(hung(ROW, 1), 3, GREATEST)[1], 2 * GREATEST + 1)


class LongTest(unittest.TestCase):
    def test_numbers_of_sixty_figures_in_the_other_cells(self):
        row = [16, 2 * GREATEST, link(5), -2 * GREATEST, link(5), 8, 2 - 2 * GREATEST, link(5)]
        once = hung(row, 2)
        self.assertEqual(once, [16, 2 * GREATEST, 8, -2 * GREATEST, link(5), link(2), 2 - 2 * GREATEST, link(5)])
        row_of_three = hung_all(once, (7, 4))
        self.assertEqual(row_of_three,
                         [16, 2 * GREATEST, 8, -2 * GREATEST, link(7), link(4), 2 - 2 * GREATEST, link(2)])
        self.assertEqual(led(row_of_three, 5, 9),
                         [16, 2 * GREATEST, link(9), -2 * GREATEST, link(9), 8, 2 - 2 * GREATEST, link(9)])

    def test_all_fields_of_a_row_of_several_hundred_words(self):
        row = [4 * 899] + [link(900) for _ in range(899)] + [4] + [-2]
        ats = [1 + at * 7 % 899 for at in range(899)]
        full = hung_all(row, ats)
        self.assertEqual(chain_of(full, 900), (ats[::-1], 4))
        self.assertEqual(full[0], 4 * 899)
        self.assertEqual(led(full, 900, 3), [4 * 899] + [7] * 899 + [4, -2])

    def test_a_head_in_the_middle_of_a_row_of_several_hundred_words(self):
        row = [4 * 299] + [link(300) if at % 3 else 2 * at for at in range(1, 300)]
        row += [4 * 300] + [link(300) if at % 2 else -2 * at for at in range(301, 601)]
        ats = [at for at in range(601) if row[at] == link(300)]
        full = hung_all(row, ats)
        for at in range(601):
            if at not in ats and at != 300:
                self.assertEqual(full[at], row[at])
        self.assertEqual(led(full, 300, 300), row)
        self.assertEqual(led(full, 300, 17), [35 if at in ats else row[at] for at in range(601)])


class ListsTest(unittest.TestCase):
    def test_the_list_handed_in_stays(self):
        row = list(ROW)
        told = hung(row, 1)
        self.assertEqual(row, ROW)
        told[:] = [77] * 20
        self.assertEqual(row, ROW)

    def test_the_list_handed_in_to_be_led_stays(self):
        for ats in ((), (1,), (9, 1)):
            with self.subTest(ats=ats):
                row = hung_all(ROW, ats)
                before = list(row)
                told = led(row, 3, 0)
                self.assertEqual(row, before)
                told[:] = [77] * 20
                self.assertEqual(row, before)

    def test_a_new_list_is_told_also_where_nothing_changes(self):
        row = list(ROW)
        self.assertIsNot(led(row, 3, 3), row)
        self.assertIsNot(led(row, 3, 3), led(row, 3, 3))
        self.assertIs(type(led(row, 3, 3)), list)
        self.assertIs(type(hung(row, 1)), list)

    def test_what_was_told_does_not_change_later(self):
        first = hung(ROW, 2)
        before = list(first)
        led(hung(first, 4), 6, 0)
        self.assertEqual(first, before)


class InterfaceTest(unittest.TestCase):
    def test_each_function_stands_in_this_file_with_its_arguments(self):
        for name, parameters in {"hung": ["row", "at"], "led": ["row", "head", "place"]}.items():
            with self.subTest(name):
                function = getattr(chains, name)
                self.assertTrue(inspect.isfunction(function))
                self.assertEqual(function.__module__, "threadslide.chains")
                self.assertEqual(list(inspect.signature(function).parameters), parameters)


if __name__ == "__main__":
    unittest.main()
