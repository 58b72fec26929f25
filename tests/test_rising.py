"""Points 1, 2, 8 and 9 and the interface of quillhouse.rising: the wanted pages and the strokes of coming up."""

import inspect
import itertools
import unittest

from helper import BIG, Dice
from quillhouse.cellar import behind
from quillhouse.rising import up, wanted


def put(dealing, page, old, new):
    return ("put", dealing, page, old, new)


def end(dealing):
    return ("end", dealing)


def told_wanted(pages, log):
    # Each page by itself: the old of the first line without an end that no later one undoes decides, else the last new.
    ended = [line[1] for line in log if line[0] == "end"]
    found = []
    for page, number in enumerate(pages):
        puts = [line for line in log if line[0] == "put" and line[2] == page]
        unended = [line for line in puts if line[1] not in ended]
        if unended:
            found.append(unended[0][3])
        elif puts:
            found.append(puts[-1][4])
        else:
            found.append(number)
    return found


def told_up(pages, log):
    strokes = []
    for page, number in enumerate(told_wanted(pages, log)):
        if number != pages[page]:
            strokes.append(("page", page, number))
    return strokes + ([("cut", len(log))] if log else [])


def small_logs(longest):
    lines = [put(0, 0, 1, 2), put(0, 1, 3, 1), put(1, 0, 2, 3), put(1, 1, 1, 1), end(0), end(1)]
    for length in range(longest + 1):
        for log in itertools.product(lines, repeat=length):
            yield list(log)


class TestInterface(unittest.TestCase):
    def test_names_of_the_arguments(self):
        self.assertEqual(list(inspect.signature(wanted).parameters), ["pages", "log"])
        self.assertEqual(list(inspect.signature(up).parameters), ["pages", "log"])

    def test_kinds(self):
        for log in [[], [put(0, 0, 1, 2)], [put(0, 0, 1, 2), end(0)]]:
            with self.subTest(log=log):
                self.assertIs(type(wanted([1], log)), list)
                self.assertIs(type(up([1], log)), list)
                for stroke in up([1], log):
                    self.assertIs(type(stroke), tuple)


class TestWanted(unittest.TestCase):
    def test_empty_log(self):
        self.assertEqual(wanted([5], []), [5])
        self.assertEqual(wanted([5, -7, 0], []), [5, -7, 0])

    def test_ended_dealings_alone(self):
        self.assertEqual(wanted([5, 7], [put(0, 1, 7, 8), end(0)]), [5, 8])
        self.assertEqual(wanted([5, 7], [put(0, 1, 7, 8), put(1, 0, 5, 6), end(1), end(0)]), [6, 8])

    def test_dealings_without_an_end_line_alone(self):
        self.assertEqual(wanted([5, 7], [put(0, 1, 7, 8)]), [5, 7])
        self.assertEqual(wanted([6, 8], [put(0, 1, 7, 8), put(1, 0, 5, 6)]), [5, 7])

    def test_both_by_turns(self):
        log = [put(0, 0, 1, 11), put(1, 1, 2, 12), put(0, 2, 3, 13), put(1, 3, 4, 14), end(0)]
        self.assertEqual(wanted([1, 2, 3, 4], log), [11, 2, 13, 4])
        self.assertEqual(wanted([11, 12, 13, 14], log), [11, 2, 13, 4])
        self.assertEqual(wanted([1, 2, 3, 4], log[:4] + [end(1)]), [1, 12, 3, 14])

    def test_end_lines_alone(self):
        self.assertEqual(wanted([5, 7], [end(0), end(1), end(0)]), [5, 7])

    def test_one_page_put_several_times_by_one_dealing(self):
        log = [put(0, 0, 1, 2), put(0, 0, 2, 3), put(0, 0, 3, 4)]
        self.assertEqual(wanted([2], log), [1])
        self.assertEqual(wanted([2], log + [end(0)]), [4])

    def test_one_page_put_by_several_dealings(self):
        log = [put(0, 0, 1, 2), end(0), put(1, 0, 2, 3), end(1), put(2, 0, 3, 4), put(2, 0, 4, 5)]
        self.assertEqual(wanted([1], log), [3])
        self.assertEqual(wanted([5], log), [3])
        self.assertEqual(wanted([1], log + [end(2)]), [5])

    def test_dropped_dealing(self):
        log = [put(0, 0, 1, 2), put(0, 0, 2, 3), put(0, 0, 3, 2), put(0, 0, 2, 1), end(0)]
        self.assertEqual(wanted([1], log), [1])
        self.assertEqual(wanted([3], log), [1])

    def test_dealing_stopped_in_its_drop(self):
        log = [put(0, 0, 1, 2), put(0, 0, 2, 3), put(0, 0, 3, 2), put(0, 0, 2, 1)]
        for many in range(1, 5):
            for number in (1, 2, 3):
                with self.subTest(many=many, number=number):
                    self.assertEqual(wanted([number], log[:many]), [1])

    def test_puts_of_several_dealings_on_one_page(self):
        log = [put(0, 0, 1, 2), put(1, 0, 2, 3), put(2, 0, 3, 4), end(1)]
        self.assertEqual(wanted([9], log), [1])
        self.assertEqual(wanted([9], log + [end(0)]), [3])
        self.assertEqual(wanted([9], log + [end(2)]), [1])
        self.assertEqual(wanted([9], log + [end(0), end(2)]), [4])

    def test_olds_that_do_not_fit(self):
        self.assertEqual(wanted([5], [put(0, 0, 77, 6)]), [77])
        self.assertEqual(wanted([5], [put(0, 0, 77, 6), put(0, 0, 88, 7)]), [77])
        self.assertEqual(wanted([5], [put(0, 0, 77, 6), end(0), put(1, 0, 88, 7)]), [88])
        self.assertEqual(wanted([5], [put(1, 0, 88, 7), put(0, 0, 77, 6), end(0)]), [88])

    def test_end_line_before_the_put_lines(self):
        self.assertEqual(wanted([5], [end(0), put(0, 0, 5, 6)]), [6])

    def test_the_number_of_a_page_is_not_taken_for_a_dealing(self):
        self.assertEqual(wanted([5, 7], [put(0, 1, 7, 8), end(1)]), [5, 7])
        self.assertEqual(wanted([5, 7], [put(1, 0, 5, 6), end(1)]), [6, 7])

    def test_dealings_with_any_number(self):
        log = [put(-3, 0, 1, 2), put(BIG, 1, 1, 2), put(10 ** 6, 2, 1, 2), end(BIG)]
        self.assertEqual(wanted([1, 1, 1], log), [1, 2, 1])

    def test_large_numbers_and_numbers_below_nought(self):
        log = [put(0, 0, BIG, -BIG), put(1, 1, -BIG, BIG), end(1)]
        self.assertEqual(wanted([0, 0], log), [BIG, BIG])
        self.assertEqual(wanted([0, 0], log[:2]), [BIG, -BIG])

    def test_forty_pages(self):
        pages = list(range(40))
        log = [put(page % 4, page, page, page + 100) for page in pages] + [end(1), end(3)]
        self.assertEqual(wanted(pages, log), [page + 100 if page % 2 else page for page in pages])


class TestUp(unittest.TestCase):
    def test_empty_log(self):
        self.assertEqual(up([5], []), [])
        self.assertEqual(up([5, 7], []), [])

    def test_ended_dealing(self):
        log = [put(0, 1, 7, 8), end(0)]
        self.assertEqual(up([5, 7], log), [("page", 1, 8), ("cut", 2)])

    def test_dealing_without_an_end_line(self):
        self.assertEqual(up([5, 8], [put(0, 1, 7, 8)]), [("page", 1, 7), ("cut", 1)])

    def test_pages_as_wanted_get_no_stroke(self):
        self.assertEqual(up([5, 8], [put(0, 1, 7, 8), end(0)]), [("cut", 2)])
        self.assertEqual(up([5, 7], [put(0, 1, 7, 8)]), [("cut", 1)])
        self.assertEqual(up([5], [end(0)]), [("cut", 1)])
        log = [put(0, 0, 1, 2), put(0, 1, 1, 2), put(0, 2, 1, 2), end(0)]
        self.assertEqual(up([1, 2, 1], log), [("page", 0, 2), ("page", 2, 2), ("cut", 4)])

    def test_strokes_from_page_nought_on(self):
        log = [put(0, 2, 1, 2), put(1, 0, 1, 2), put(0, 3, 1, 2), put(1, 1, 1, 2), end(1)]
        self.assertEqual(up([1, 1, 2, 2], log),
                         [("page", 0, 2), ("page", 1, 2), ("page", 2, 1), ("page", 3, 1), ("cut", 5)])

    def test_one_stroke_for_a_page_that_is_put_often(self):
        log = [put(0, 0, number, number + 1) for number in range(10)]
        self.assertEqual(up([4], log), [("page", 0, 0), ("cut", 10)])
        self.assertEqual(up([4], log + [end(0)]), [("page", 0, 10), ("cut", 11)])

    def test_forty_pages(self):
        pages = list(range(40))
        log = [put(0, page, page, -page - 1) for page in reversed(pages)] + [end(0)]
        self.assertEqual(up(pages, log), [("page", page, -page - 1) for page in pages] + [("cut", 41)])

    def test_large_numbers(self):
        self.assertEqual(up([0], [put(0, 0, -BIG, BIG)]), [("page", 0, -BIG), ("cut", 1)])


class TestBoth(unittest.TestCase):
    def test_all_small_logs(self):
        for log in small_logs(5):
            for pages in ([1, 1], [2, 3]):
                self.assertEqual(wanted(pages, log), told_wanted(pages, log), (pages, log))
                self.assertEqual(up(pages, log), told_up(pages, log), (pages, log))

    def test_stopped_behind_each_stroke_it_comes_up_with_the_same(self):
        for log in small_logs(4):
            for pages in ([1, 1], [2, 3]):
                strokes = up(pages, log)
                for many in range(len(strokes) + 1):
                    cellar = behind(pages, log, strokes[:many])
                    self.assertEqual(wanted(*cellar), wanted(pages, log), (pages, log, many))
                    self.assertEqual(behind(*cellar, up(*cellar)), (wanted(pages, log), []), (pages, log, many))

    def test_long_logs(self):
        for seed in range(60):
            dice = Dice(seed)
            pages = [dice.below(5) for page in range(1 + dice.below(8))]
            log = []
            for count in range(dice.below(60)):
                dealing = dice.below(9)
                if dice.below(5) == 0:
                    log.append(end(dealing))
                else:
                    log.append(put(dealing, dice.below(len(pages)), dice.below(5), dice.below(5)))
            with self.subTest(seed=seed):
                self.assertEqual(wanted(pages, log), told_wanted(pages, log))
                self.assertEqual(up(pages, log), told_up(pages, log))

    def test_pages_and_log_stay_as_handed_in(self):
        pages = [5, 8]
        log = [put(0, 1, 7, 8), put(1, 0, 5, 6), end(1)]
        for function in (wanted, up):
            with self.subTest(function=function.__name__):
                found = function(pages, log)
                found.append("more")
                self.assertEqual(pages, [5, 8])
                self.assertEqual(log, [put(0, 1, 7, 8), put(1, 0, 5, 6), end(1)])

    def test_a_list_of_its_own_where_the_log_is_empty(self):
        pages = [5]
        self.assertIsNot(wanted(pages, []), pages)


if __name__ == "__main__":
    unittest.main()
