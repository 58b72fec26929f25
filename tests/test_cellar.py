"""Points 1, 2 and 3 and the interface of quillhouse.cellar: what strokes make of the cellar."""

import inspect
import itertools
import unittest

from helper import BIG
from quillhouse.cellar import behind

PUT_A = ("put", 0, 0, 5, 6)
PUT_B = ("put", 1, 1, 7, 8)
PUT_C = ("put", 1, 0, 6, 9)
END_A = ("end", 0)
END_B = ("end", 1)


class TestOneStroke(unittest.TestCase):
    def test_put_line_is_written_and_changes_no_page(self):
        self.assertEqual(behind([5, 7], [], [("line", PUT_A)]), ([5, 7], [PUT_A]))

    def test_end_line_is_written(self):
        self.assertEqual(behind([5], [], [("line", END_A)]), ([5], [END_A]))

    def test_line_is_written_behind_all_others(self):
        self.assertEqual(behind([5, 7], [PUT_A, END_A], [("line", PUT_B)]), ([5, 7], [PUT_A, END_A, PUT_B]))

    def test_the_same_line_is_written_again(self):
        self.assertEqual(behind([5], [PUT_A], [("line", PUT_A)]), ([5], [PUT_A, PUT_A]))

    def test_page_is_written_and_no_line(self):
        self.assertEqual(behind([5, 7, 9], [PUT_A], [("page", 1, 8)]), ([5, 8, 9], [PUT_A]))

    def test_first_and_last_page_are_told_from_nought(self):
        self.assertEqual(behind([5, 7, 9], [], [("page", 0, 1)]), ([1, 7, 9], []))
        self.assertEqual(behind([5, 7, 9], [], [("page", 2, 1)]), ([5, 7, 1], []))

    def test_page_is_written_with_the_number_it_has(self):
        self.assertEqual(behind([5, 7], [], [("page", 1, 7)]), ([5, 7], []))

    def test_cut_of_none(self):
        self.assertEqual(behind([5, 7], [PUT_A, END_A], [("cut", 0)]), ([5, 7], [PUT_A, END_A]))

    def test_cut_of_some_takes_the_first_ones(self):
        log = [PUT_A, END_A, PUT_B]
        self.assertEqual(behind([5, 7], log, [("cut", 1)]), ([5, 7], [END_A, PUT_B]))
        self.assertEqual(behind([5, 7], log, [("cut", 2)]), ([5, 7], [PUT_B]))

    def test_cut_of_all(self):
        self.assertEqual(behind([5, 7], [PUT_A, END_A, PUT_B], [("cut", 3)]), ([5, 7], []))

    def test_cut_of_none_of_an_empty_log(self):
        self.assertEqual(behind([5], [], [("cut", 0)]), ([5], []))


class TestManyStrokes(unittest.TestCase):
    def test_no_strokes(self):
        self.assertEqual(behind([5, 7], [PUT_A], []), ([5, 7], [PUT_A]))
        self.assertEqual(behind([5], [], []), ([5], []))

    def test_lines_stand_in_the_order_of_their_strokes(self):
        strokes = [("line", PUT_A), ("line", PUT_B), ("line", END_B), ("line", END_A)]
        self.assertEqual(behind([5, 7], [], strokes), ([5, 7], [PUT_A, PUT_B, END_B, END_A]))

    def test_a_page_written_more_than_once_has_the_last_number(self):
        strokes = [("page", 0, 1), ("page", 1, 2), ("page", 0, 3), ("page", 0, 2)]
        self.assertEqual(behind([5, 7], [], strokes), ([2, 2], []))

    def test_a_page_written_back(self):
        self.assertEqual(behind([5], [], [("page", 0, 6), ("page", 0, 5)]), ([5], []))

    def test_lines_written_behind_a_cut_stay(self):
        strokes = [("cut", 2), ("line", PUT_B), ("line", END_B)]
        self.assertEqual(behind([5, 7], [PUT_A, END_A], strokes), ([5, 7], [PUT_B, END_B]))

    def test_a_line_written_before_a_cut_goes_where_the_cut_reaches_it(self):
        self.assertEqual(behind([5], [PUT_A], [("line", END_A), ("cut", 2)]), ([5], []))
        self.assertEqual(behind([5], [PUT_A], [("line", END_A), ("cut", 1)]), ([5], [END_A]))

    def test_cuts_count_from_what_the_log_has_by_then(self):
        strokes = [("cut", 1), ("line", PUT_C), ("cut", 2), ("line", END_B), ("cut", 1)]
        self.assertEqual(behind([5, 7], [PUT_A, END_A, PUT_B], strokes[:4]), ([5, 7], [PUT_C, END_B]))
        self.assertEqual(behind([5, 7], [PUT_A, END_A, PUT_B], strokes), ([5, 7], [END_B]))

    def test_all_kinds_one_after_the_other(self):
        strokes = [
            ("line", PUT_A), ("line", END_A), ("page", 0, 6), ("cut", 2),
            ("line", PUT_B), ("line", PUT_C), ("page", 1, 8), ("cut", 1), ("line", END_B),
        ]
        states = [
            ([5, 7], []),
            ([5, 7], [PUT_A]),
            ([5, 7], [PUT_A, END_A]),
            ([6, 7], [PUT_A, END_A]),
            ([6, 7], []),
            ([6, 7], [PUT_B]),
            ([6, 7], [PUT_B, PUT_C]),
            ([6, 8], [PUT_B, PUT_C]),
            ([6, 8], [PUT_C]),
            ([6, 8], [PUT_C, END_B]),
        ]
        for many, state in enumerate(states):
            with self.subTest(many=many):
                self.assertEqual(behind([5, 7], [], strokes[:many]), state)

    def test_strokes_in_two_parts_are_the_same_as_in_one(self):
        kinds = [("line", PUT_A), ("line", END_B), ("page", 0, 3), ("page", 1, 4), ("cut", 0), ("cut", 1), ("cut", 2)]
        for strokes in itertools.product(kinds, repeat=3):
            for many in range(4):
                with self.subTest(strokes=strokes, many=many):
                    log = [PUT_A, END_A, PUT_B, PUT_C, PUT_A, END_B]
                    middle = behind([5, 7], log, list(strokes[:many]))
                    self.assertEqual(
                        behind(middle[0], middle[1], list(strokes[many:])), behind([5, 7], log, list(strokes))
                    )


class TestSizes(unittest.TestCase):
    def test_one_page(self):
        self.assertEqual(behind([5], [PUT_A], [("page", 0, 6), ("cut", 1)]), ([6], []))

    def test_forty_pages(self):
        pages = list(range(40))
        strokes = [("page", page, 100 + page) for page in reversed(range(40))]
        self.assertEqual(behind(pages, [], strokes), (list(range(100, 140)), []))
        self.assertEqual(behind(pages, [], [("page", 39, -1)]), (list(range(39)) + [-1], []))

    def test_numbers_of_thirty_two_figures_and_below_nought(self):
        for number in [BIG, -BIG, BIG - 1, -1, 0]:
            with self.subTest(number=number):
                line = ("put", BIG, 1, number, -number)
                self.assertEqual(
                    behind([number, 0], [line], [("page", 1, number), ("line", line)]),
                    ([number, number], [line, line]),
                )

    def test_numbers_somewhat_beyond_the_bound_are_kept_whole(self):
        number = 10 ** 40 + 1
        self.assertEqual(behind([0], [], [("page", 0, number)]), ([number], []))

    def test_dealings_below_nought(self):
        line = ("end", -3)
        self.assertEqual(behind([0], [], [("line", line)]), ([0], [line]))

    def test_a_long_log(self):
        log = [("end", number) for number in range(2000)]
        self.assertEqual(behind([0], log, [("cut", 1)] * 1999), ([0], [("end", 1999)]))


class TestKinds(unittest.TestCase):
    def test_interface_names(self):
        self.assertEqual(list(inspect.signature(behind).parameters), ["pages", "log", "strokes"])
        self.assertEqual(behind(pages=[5], log=[], strokes=[("page", 0, 6)]), ([6], []))

    def test_answer_is_a_tuple_of_two_lists(self):
        for strokes in [[], [("line", PUT_A)], [("page", 0, 1)], [("cut", 1)], [("cut", 0)]]:
            with self.subTest(strokes=strokes):
                answer = behind([5], [END_A], strokes)
                self.assertIs(type(answer), tuple)
                self.assertEqual([type(part) for part in answer], [list, list])

    def test_lines_stay_tuples(self):
        log = behind([5], [PUT_A], [("line", END_A)])[1]
        self.assertEqual([type(line) for line in log], [tuple, tuple])

    def test_what_is_handed_in_stays(self):
        pages = [5, 7]
        log = [PUT_A, END_A]
        strokes = [("line", PUT_B), ("page", 0, 6), ("cut", 2), ("page", 1, 9)]
        behind(pages, log, strokes)
        self.assertEqual(pages, [5, 7])
        self.assertEqual(log, [PUT_A, END_A])
        self.assertEqual(strokes, [("line", PUT_B), ("page", 0, 6), ("cut", 2), ("page", 1, 9)])

    def test_a_later_change_of_the_answer_changes_nothing_handed_in(self):
        for given in [[], [("line", PUT_B)], [("page", 0, 6)], [("cut", 0)], [("cut", 1)]]:
            with self.subTest(strokes=given):
                pages = [5, 7]
                log = [PUT_A, END_A]
                strokes = list(given)
                answer = behind(pages, log, strokes)
                answer[0][1] = 100
                answer[0].append(101)
                answer[1].append(END_B)
                answer[1][0] = END_B
                self.assertEqual((pages, log, strokes), ([5, 7], [PUT_A, END_A], given))

    def test_a_later_change_of_what_was_handed_in_does_not_change_the_answer(self):
        pages = [5, 7]
        log = [PUT_A]
        strokes = [("line", END_A)]
        answer = behind(pages, log, strokes)
        pages[0] = 100
        log.clear()
        strokes.clear()
        self.assertEqual(answer, ([5, 7], [PUT_A, END_A]))

    def test_the_same_each_time(self):
        strokes = [("line", PUT_B), ("cut", 1), ("page", 1, 9)]
        first = behind([5, 7], [PUT_A], strokes)
        self.assertEqual(behind([5, 7], [PUT_A], strokes), first)
        self.assertIsNot(behind([5, 7], [PUT_A], strokes)[0], first[0])


if __name__ == "__main__":
    unittest.main()
