"""Points 1 and 5 and the interface of quillhouse.lines: which lines of the log are needed."""

import inspect
import itertools
import unittest

from helper import BIG, is_needed
from quillhouse.lines import needed_from


def put(dealing, page):
    return ("put", dealing, page, 0, 1)


def end(dealing):
    return ("end", dealing)


class TestNoneNeeded(unittest.TestCase):
    def test_empty_log(self):
        self.assertEqual(needed_from([5], [5], [], []), 0)
        self.assertEqual(needed_from([5], [6], [], [0]), 0)

    def test_ended_and_carried_puts(self):
        self.assertEqual(needed_from([1, 1], [1, 1], [put(0, 0), put(0, 1), end(0)], []), 3)

    def test_other_dealings_are_open(self):
        self.assertEqual(needed_from([1], [1], [put(0, 0), end(0)], [1, 2]), 2)

    def test_pages_differ_but_no_put_line_names_them(self):
        self.assertEqual(needed_from([0, 1, 5], [9, 1, 6], [put(0, 1), end(0)], []), 2)

    def test_pages_differ_and_the_log_has_end_lines_alone(self):
        self.assertEqual(needed_from([0], [9], [end(0), end(1)], []), 2)

    def test_end_line_of_a_dealing_told_as_open(self):
        self.assertEqual(needed_from([1], [1], [end(0)], [0]), 1)
        self.assertEqual(needed_from([1, 0], [1, 9], [end(3), put(1, 0), end(0)], [0, 3]), 3)

    def test_end_line_whose_dealing_has_the_number_of_a_page_that_differs(self):
        self.assertEqual(needed_from([0, 0], [0, 9], [end(1)], []), 1)


class TestOpenDealing(unittest.TestCase):
    def test_first_line(self):
        self.assertEqual(needed_from([1, 1], [1, 1], [put(0, 0), put(1, 1), end(1)], [0]), 0)

    def test_line_in_the_middle(self):
        self.assertEqual(needed_from([1, 1], [1, 1], [put(0, 0), end(0), put(1, 1), put(2, 0), end(2)], [1]), 2)

    def test_last_line(self):
        self.assertEqual(needed_from([1, 1], [1, 1], [put(0, 0), end(0), put(1, 1)], [1]), 2)

    def test_line_that_is_not_the_last_put_of_its_page(self):
        self.assertEqual(needed_from([1], [1], [put(0, 0), put(0, 0), put(0, 0)], [0]), 0)

    def test_page_that_is_the_same_in_cellar_and_desk(self):
        self.assertEqual(needed_from([7, 7], [7, 7], [("put", 0, 1, 7, 7)], [0]), 0)

    def test_the_end_line_of_an_open_dealing_before_its_put(self):
        self.assertEqual(needed_from([1], [1], [end(0), put(0, 0)], [0]), 1)

    def test_the_number_of_the_page_is_not_taken_for_the_dealing(self):
        self.assertEqual(needed_from([1, 1], [1, 1], [put(0, 1), put(1, 0), end(0)], [1]), 1)

    def test_dealings_in_any_order(self):
        log = [put(9, 0), end(9), put(4, 0), put(7, 1), put(1, 2)]
        for dealings in itertools.permutations([1, 4, 7]):
            with self.subTest(dealings=dealings):
                self.assertEqual(needed_from([1, 1, 1], [1, 1, 1], log, list(dealings)), 2)

    def test_a_dealing_told_twice(self):
        self.assertEqual(needed_from([1], [1], [put(0, 0), end(0), put(1, 0)], [1, 1]), 2)

    def test_an_open_dealing_without_lines(self):
        self.assertEqual(needed_from([1, 1], [1, 1], [put(0, 0), end(0), put(2, 1)], [1, 2]), 2)


class TestPageThatDiffers(unittest.TestCase):
    def test_first_line(self):
        self.assertEqual(needed_from([0, 1], [1, 1], [put(0, 0), put(0, 1), end(0)], []), 0)

    def test_line_in_the_middle(self):
        self.assertEqual(needed_from([1, 0], [1, 1], [put(0, 0), put(0, 1), end(0)], []), 1)

    def test_last_line(self):
        self.assertEqual(needed_from([1, 0], [1, 1], [put(0, 0), end(0), put(1, 1)], []), 2)

    def test_earlier_put_lines_of_the_page_are_not_needed(self):
        log = [put(0, 0), end(0), put(1, 0), end(1), put(2, 0), end(2)]
        self.assertEqual(needed_from([0], [1], log, []), 4)

    def test_earlier_put_lines_of_the_page_by_the_same_dealing_are_not_needed(self):
        self.assertEqual(needed_from([0], [1], [put(0, 0), put(0, 0), end(0)], []), 1)

    def test_an_earlier_put_line_of_the_page_by_an_open_dealing_is_needed(self):
        self.assertEqual(needed_from([0], [1], [put(0, 0), put(1, 0), put(2, 0)], [1]), 1)

    def test_what_the_line_puts_does_not_matter(self):
        self.assertEqual(needed_from([3], [4], [("put", 0, 0, 8, 3), end(0)], []), 0)
        self.assertEqual(needed_from([4], [4], [("put", 0, 0, 8, 3), end(0)], []), 2)

    def test_cellar_and_desk_are_told_apart_from_either_side(self):
        self.assertEqual(needed_from([2], [1], [end(1), put(0, 0)], []), 1)
        self.assertEqual(needed_from([1], [2], [end(1), put(0, 0)], []), 1)

    def test_last_puts_of_several_pages(self):
        log = [put(0, 0), put(0, 1), put(0, 2), put(0, 0), end(0)]
        self.assertEqual(needed_from([0, 1, 0], [1, 1, 1], log, []), 2)
        self.assertEqual(needed_from([0, 1, 1], [1, 1, 1], log, []), 3)
        self.assertEqual(needed_from([0, 0, 0], [1, 1, 1], log, []), 1)


class TestBothGrounds(unittest.TestCase):
    def test_open_dealing_first(self):
        self.assertEqual(needed_from([1, 0], [1, 1], [put(5, 0), end(5), put(0, 0), put(1, 1), end(1)], [0]), 2)

    def test_page_that_differs_first(self):
        self.assertEqual(needed_from([1, 0], [1, 1], [put(5, 0), end(5), put(1, 1), end(1), put(0, 0)], [0]), 2)

    def test_every_short_log(self):
        lines = [put(0, 0), put(0, 1), put(1, 0), put(1, 1), end(0), end(1)]
        desks = [[0, 0], [0, 9], [9, 0], [9, 9]]
        groups = [[], [0], [1], [0, 1]]
        for many in range(4):
            for log in itertools.product(lines, repeat=many):
                for desk, dealings in itertools.product(desks, groups):
                    needed = [k for k in range(many) if is_needed([0, 0], desk, log, dealings, k)]
                    with self.subTest(log=log, desk=desk, dealings=dealings):
                        self.assertEqual(needed_from([0, 0], desk, list(log), dealings), min(needed, default=many))


class TestSizes(unittest.TestCase):
    def test_forty_pages(self):
        log = [put(0, page) for page in range(40)] + [end(0)]
        pages = [0] * 40
        for page in range(40):
            with self.subTest(page=page):
                desk = [0] * page + [1] + [0] * (39 - page)
                self.assertEqual(needed_from(pages, desk, log, []), page)

    def test_numbers_of_thirty_two_figures_and_below_nought(self):
        self.assertEqual(needed_from([BIG], [BIG - 1], [put(0, 0)], []), 0)
        self.assertEqual(needed_from([BIG], [-BIG], [put(0, 0)], []), 0)
        self.assertEqual(needed_from([BIG, -BIG], [BIG, -BIG], [put(0, 0), put(0, 1)], []), 2)
        self.assertEqual(needed_from([0], [0], [put(BIG - 1, 0), put(BIG, 0)], [BIG]), 1)
        self.assertEqual(needed_from([0], [0], [put(1, 0), put(-1, 0)], [-1]), 1)

    def test_a_long_log(self):
        log = [put(0, 0)] * 5000 + [end(0)]
        self.assertEqual(needed_from([0], [1], log, list(range(1, 5000))), 4999)
        self.assertEqual(needed_from([1], [1], log, list(range(1, 5000))), 5001)


class TestKinds(unittest.TestCase):
    def test_interface_names(self):
        self.assertEqual(list(inspect.signature(needed_from).parameters), ["pages", "desk", "log", "dealings"])
        self.assertEqual(needed_from(pages=[0], desk=[1], log=[end(1), put(0, 0)], dealings=[]), 1)

    def test_answer_is_a_whole_number(self):
        for log in [[], [put(0, 0)], [end(0)]]:
            with self.subTest(log=log):
                self.assertIs(type(needed_from([0], [1], log, [])), int)

    def test_what_is_handed_in_stays(self):
        pages = [0, 1, 2]
        desk = [0, 5, 2]
        log = [put(0, 0), end(0), put(3, 1), put(2, 2)]
        dealings = [3, 2]
        self.assertEqual(needed_from(pages, desk, log, dealings), 2)
        self.assertEqual((pages, desk), ([0, 1, 2], [0, 5, 2]))
        self.assertEqual(log, [put(0, 0), end(0), put(3, 1), put(2, 2)])
        self.assertEqual(dealings, [3, 2])


if __name__ == "__main__":
    unittest.main()
