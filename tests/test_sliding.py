"""threadslide/sliding.py: points 4, 6 and 7 of the document."""

import inspect
import unittest

from model import GREATEST, To, kept_of, places_of, pushed_boxes, row_of, thrown_boxes, used_by
from threadslide import sliding
from threadslide.sliding import heads, marked, pushed

DOOR_ALONE = [[]]
WAY = [[To(2)], [5], [To(4), 6], [To(1)], [To(4), -7], [8]]
RING = [[To(1), 3], [To(2)], [4, To(3)], [To(1)], [To(4)], []]
MANY_STEPS = [[To(k + 1)] for k in range(198)] + [[7], [9]]
MANY_STEPS_BACK = [[To(199)], [9]] + [[To(k - 1)] for k in range(2, 200)]
TO_DOOR = [[To(0), 1], [To(0), 2], [To(0)]]
FULL = [[To(3), GREATEST], [To(0)], [-GREATEST, To(2), To(1)], [To(2)]]


class SlidingCase(unittest.TestCase):
    def assert_pushed(self, boxes, wanted, size=None):
        """Boxes are pushed together to those that are wanted, in a row of so many cells."""
        size = used_by(boxes) if size is None else size
        told = pushed(row_of(boxes, size), used_by(boxes))
        self.assertIs(type(told), tuple)
        self.assertEqual(told, (row_of(wanted, size), used_by(wanted)))
        self.assertIs(type(told[0]), list)
        self.assertIs(type(told[1]), int)

    def assert_marked(self, boxes, marks, size=None):
        told = marked(row_of(boxes, size), used_by(boxes))
        self.assertIs(type(told), list)
        self.assertEqual(told, row_of(boxes, size, marks))


class HeadsTest(SlidingCase):
    def test_places_of_all_boxes(self):
        self.assertEqual(heads([8, 7, 42, 4, 2, 0], 6), [0, 3, 5])

    def test_the_door_alone(self):
        self.assertEqual(heads([0], 1), [0])
        self.assertEqual(heads([4, 2], 2), [0])
        self.assertEqual(heads([80] + [0] * 20, 21), [0])
        self.assertEqual(heads([4 * 399] + [0] * 399, 400), [0])

    def test_boxes_without_fields(self):
        self.assertEqual(heads([0, 0, 0], 3), [0, 1, 2])
        self.assertEqual(heads([0] * 400, 400), list(range(400)))

    def test_cells_behind_the_boxes_are_no_boxes(self):
        self.assertEqual(heads([0, 0, 0], 1), [0])
        self.assertEqual(heads([4, 2, 0, 0, 0, 0], 3), [0, 2])
        self.assertEqual(heads([0] * 400, 1), [0])

    def test_words_of_fields_are_no_heads(self):
        self.assertEqual(heads([12, 4, 8, 0, 4, 12], 6), [0, 4])

    def test_heads_that_are_marked(self):
        self.assertEqual(heads([10, 7, 42, 6, 2, 2], 6), [0, 3, 5])

    def test_thrown_rows(self):
        for boxes, size in thrown_boxes(200):
            self.assertEqual(heads(row_of(boxes, size), used_by(boxes)), places_of(boxes))


class MarkedTest(SlidingCase):
    def test_a_row_of_single_words(self):
        self.assertEqual(marked([8, 13, 42, 4, 2, 0, 4, 1, 0, 0], 8), [10, 13, 42, 4, 2, 0, 6, 1, 0, 0])

    def test_the_door_alone(self):
        self.assert_marked(DOOR_ALONE, [0])
        self.assert_marked(DOOR_ALONE, [0], 400)
        self.assert_marked([[1, 2, 3]], [0], 9)

    def test_a_way_of_several_steps(self):
        self.assert_marked(WAY, [0, 2, 4], 20)

    def test_links_in_a_ring(self):
        self.assert_marked(RING, [0, 1, 2, 3])

    def test_a_ring_that_cannot_be_come_to(self):
        self.assert_marked([[5], [To(2)], [To(1)]], [0])

    def test_ways_of_many_steps(self):
        self.assert_marked(MANY_STEPS, range(199))
        self.assert_marked(MANY_STEPS_BACK, [0] + list(range(1, 200)))

    def test_links_to_the_door_and_to_the_box_itself(self):
        self.assert_marked(TO_DOOR, [0])
        self.assert_marked([[To(1)], [To(1), To(0)], [To(2), To(1)]], [0, 1])

    def test_a_box_without_fields_can_be_come_to(self):
        self.assert_marked([[To(2)], [], [], []], [0, 2])

    def test_a_door_without_fields_leads_nowhere(self):
        self.assert_marked([[], [To(0)], []], [0])

    def test_every_field_is_followed(self):
        self.assert_marked([[1, To(1), 2, To(3), To(5)], [], [], [To(4)], [], [], []], [0, 1, 3, 4, 5])

    def test_a_number_whose_word_looks_like_another_is_no_link(self):
        # The words 8 and 4 are those of heads here, and 3, 6 and 7 tell of places or links.
        self.assert_marked([[4, 2], [1], [3], [7]], [0])
        self.assert_marked([[6, 3], [0], [5]], [0])
        self.assert_marked([[To(1), 6], [To(0), 1], [2]], [0, 1])

    def test_long_numbers_are_no_links(self):
        self.assert_marked([[GREATEST, -GREATEST], [1]], [0])

    def test_heads_of_boxes_that_cannot_be_come_to_stay(self):
        self.assertEqual(marked([0, 4, 1, 0], 4), [2, 4, 1, 0])

    def test_thrown_rows(self):
        for boxes, size in thrown_boxes(300):
            self.assert_marked(boxes, kept_of(boxes), size)


class PushedTest(SlidingCase):
    def test_a_row_of_single_words(self):
        self.assertEqual(pushed([8, 13, 42, 4, 2, 0, 4, 1, 0, 0], 8), ([8, 7, 42, 4, 1, 0, 0, 0, 0, 0], 5))

    def test_all_but_the_door_left_away(self):
        self.assert_pushed([[1, To(0)], [To(0)], [], [4]], [[1, To(0)]], 30)
        self.assert_pushed([[], [To(1)], []], [[]])

    def test_the_door_alone(self):
        self.assert_pushed(DOOR_ALONE, DOOR_ALONE)
        self.assert_pushed(DOOR_ALONE, DOOR_ALONE, 400)
        self.assert_pushed([[To(0), -3]], [[To(0), -3]], 7)

    def test_boxes_left_away_at_the_beginning(self):
        self.assert_pushed([[To(3)], [1, 2], [To(3)], [7]], [[To(1)], [7]])

    def test_boxes_left_away_in_the_middle(self):
        self.assert_pushed([[To(1), To(3)], [1], [2, 2], [To(1)]], [[To(1), To(2)], [1], [To(1)]])

    def test_boxes_left_away_at_the_end(self):
        self.assert_pushed([[To(1)], [To(0), 5], [6], []], [[To(1)], [To(0), 5]])

    def test_boxes_left_away_everywhere(self):
        self.assert_pushed(WAY, [[To(1)], [To(2), 6], [To(2), -7]], 40)

    def test_none_left_away_changes_nothing(self):
        row = row_of(FULL, 25)
        told, used = pushed(row, used_by(FULL))
        self.assertEqual((told, used), (row_of(FULL, 25), used_by(FULL)))
        self.assertIsNot(told, row)
        told[0] = 77
        self.assertEqual(row, row_of(FULL, 25))

    def test_several_links_to_one_box(self):
        # From boxes ahead of it, from itself and from behind it, and twice from one box.
        self.assert_pushed(
            [[To(3), To(2), 1], [To(3)], [To(3)], [To(3), To(0), To(3)], [], [To(3)], [To(5)]],
            [[To(2), To(1), 1], [To(2)], [To(2), To(0), To(2)]])
        self.assert_pushed(
            [[To(6)], [5], [To(4)], [], [To(4), To(2)], [3, 3], [To(4), To(2), To(4)]],
            [[To(3)], [To(2)], [To(2), To(1)], [To(2), To(1), To(2)]])

    def test_links_in_a_ring(self):
        self.assert_pushed(RING, RING[:4])
        self.assert_pushed([[5], [To(2)], [To(1)]], [[5]])

    def test_ways_of_many_steps(self):
        self.assert_pushed(MANY_STEPS, MANY_STEPS[:-1])
        self.assert_pushed([[To(3)], [5], [6]] + [[To(k + 1)] for k in range(3, 199)] + [[To(0)]],
                           [[To(k + 1)] for k in range(197)] + [[To(0)]])

    def test_the_old_order_stays_also_where_links_lead_back(self):
        self.assert_pushed([[To(4)], [1], [2], [], [To(2)]], [[To(2)], [2], [To(1)]])

    def test_numbers_of_sixty_figures(self):
        self.assert_pushed([[GREATEST, To(2), -GREATEST], [GREATEST], [-GREATEST, 1 - GREATEST]],
                           [[GREATEST, To(1), -GREATEST], [-GREATEST, 1 - GREATEST]])

    def test_numbers_that_look_like_places_stay(self):
        self.assert_pushed([[3, To(2), 6], [5], [3, 6, 7]], [[3, To(1), 6], [3, 6, 7]])

    def test_the_cells_behind_are_0_and_as_many_as_ahead(self):
        boxes = [[To(2)], [GREATEST] * 5, []]
        for size in (9, 10, 50, 400):
            told, used = pushed(row_of(boxes, size), used_by(boxes))
            self.assertEqual(told, [4, 5, 0] + [0] * (size - 3))
            self.assertEqual(used, 3)

    def test_boxes_without_fields(self):
        self.assert_pushed([[To(2), To(4)], [], [], [], []], [[To(1), To(2)], [], []])
        self.assert_pushed([[]] * 400, [[]])

    def test_the_greatest_rows(self):
        self.assert_pushed([[k for k in range(399)]], [[k for k in range(399)]])
        boxes = [[To(2)], [5] * 196, [To(0)] * 200]
        self.assertEqual(used_by(boxes), 400)
        self.assert_pushed(boxes, [[To(1)], [To(0)] * 200])

    def test_thrown_rows(self):
        for boxes, size in thrown_boxes(600):
            self.assert_pushed(boxes, pushed_boxes(boxes), size)

    def test_pushed_once_more_it_is_the_same(self):
        for boxes, size in thrown_boxes(300):
            once = pushed(row_of(boxes, size), used_by(boxes))
            self.assertEqual(pushed(*once), once)

    def test_all_that_stands_can_be_come_to_and_none_is_marked(self):
        for boxes, size in thrown_boxes(300):
            row, used = pushed(row_of(boxes, size), used_by(boxes))
            all_marked = [word + 2 if at in heads(row, used) else word for at, word in enumerate(row)]
            self.assertEqual(marked(row, used), all_marked)


class ListsTest(SlidingCase):
    def test_the_list_handed_in_stays(self):
        for boxes in (DOOR_ALONE, WAY, RING, FULL):
            for function in (heads, marked, pushed):
                with self.subTest(boxes=boxes, function=function.__name__):
                    row = row_of(boxes, 40)
                    function(row, used_by(boxes))
                    self.assertEqual(row, row_of(boxes, 40))

    def test_new_lists_are_told_each_time(self):
        for boxes in (DOOR_ALONE, WAY, RING, FULL):
            row = row_of(boxes, 40)
            used = used_by(boxes)
            self.assertIsNot(heads(row, used), heads(row, used))
            for told, other in ((marked(row, used), marked(row, used)), (pushed(row, used)[0], pushed(row, used)[0])):
                before = list(other)
                told[:] = [77] * 50
                self.assertEqual(other, before)
                self.assertEqual(row, row_of(boxes, 40))


class InterfaceTest(unittest.TestCase):
    def test_each_function_stands_in_this_file_with_its_arguments(self):
        for name in ("heads", "marked", "pushed"):
            with self.subTest(name):
                function = getattr(sliding, name)
                self.assertTrue(inspect.isfunction(function))
                self.assertEqual(function.__module__, "threadslide.sliding")
                self.assertEqual(list(inspect.signature(function).parameters), ["row", "used"])


if __name__ == "__main__":
    unittest.main()
