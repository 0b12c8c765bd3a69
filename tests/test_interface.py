"""How calls are handed in and answers given back."""

import unittest

from barstacks.desk import answers
from helper import PIECES, PRINT, bytes_of, count, fault, first, least, take

BARS = "pin A 0 0\npin B 9 0\ncrank C A 3\ndyad D C 8 B 7\n"
SIZE = len(BARS)


class Interface(unittest.TestCase):
    def test_empty_list(self):
        self.assertEqual(answers([]), [])

    def test_number_alone(self):
        self.assertEqual(answers(take(BARS)), [1, 4])

    def test_count_of_print_stands_twice(self):
        self.assertEqual(answers(take(BARS) + PRINT), [1, 4, SIZE + 2, SIZE, SIZE] + bytes_of(BARS))

    def test_list_for_each_piece(self):
        self.assertEqual(answers(take(BARS) + PIECES), [1, 4, 10, 3, 2, 0, 2, 2, 2, 3, 2, 1, 3])

    def test_fault_has_a_list_of_three(self):
        self.assertEqual(answers(take(BARS) + fault([1, 2, 2], (1, 2, 0))), [1, 4, 5, 1, 3, 0, 1, 2])

    def test_free_stands_alone(self):
        self.assertEqual(answers(take(BARS) + fault([1, 2, 1], (1, 1, 0))), [1, 4, 1, 0])

    def test_first_has_a_height_for_each_piece(self):
        self.assertEqual(answers(take(BARS) + first(2, (1, 1, 0))), [1, 4, 5, 1, 3, 1, 2, 1])
        self.assertEqual(answers(take("pin A 0 0\ncrank C A 3\n") + first(2, (1, 1, 0))), [1, 2, 3, 1, 1, 1])
        self.assertEqual(answers(take(BARS) + first(3)), [1, 4, 5, 1, 3, 1, 1, 1])

    def test_no_first_stands_alone(self):
        self.assertEqual(answers(take(BARS) + first(1, (1, 1, 0))), [1, 4, 1, 0])

    def test_count_and_least_stand_alone(self):
        self.assertEqual(answers(take(BARS) + count(4, (1, 1, 0)) + count(4)), [1, 4, 1, 36, 1, 64])
        self.assertEqual(answers(take(BARS) + least((1, 1, 0)) + least()), [1, 4, 1, 2, 1, 1])

    def test_open_figure_of_first_count_and_least(self):
        calls = first(2, (1, 1, 0), (0, 0, 0)) + count(3, (0, 0, 0)) + least((1, 1, 0), (1, 1, 1), (1, 1, 2))
        self.assertEqual(answers(take(BARS) + calls), [1, 4, 3, -3, 1, 1, 3, -3, 1, 0, 3, -3, 1, 2])

    def test_fault_of_a_text_has_a_list_of_one(self):
        self.assertEqual(answers(take("pin A 0 x")), [3, -6, 1, 8])

    def test_open_figure_has_a_list_of_one(self):
        self.assertEqual(answers(take(BARS) + fault([1, 2, 3], (1, 2, 0), (0, 0, 0))), [1, 4, 3, -3, 1, 1])

    def test_other_refusals_stand_alone(self):
        calls = PRINT + take("x" * 1025) + take(BARS) + fault([1], (1, 2, 0))
        self.assertEqual(answers(calls), [1, -9, 1, -2, 1, 4, 1, -1])

    def test_several_calls_refused_ones_among_them(self):
        calls = PIECES + take("") + take(BARS) + fault([1, 2, 1]) + take("pin") + fault([0, 2, 1]) + PIECES
        expected = [1, -9, 3, -6, 1, 0, 1, 4, 1, 0, 3, -6, 1, 3, 1, -1, 10, 3, 2, 0, 2, 2, 2, 3, 2, 1, 3]
        self.assertEqual(answers(calls), expected)

    def test_first_count_and_least_between_others(self):
        up = (1, 1, 0)
        calls = first(2, up) + least() + take("pin") + count(0) + take(BARS) + least(up) + PIECES + count(3, up)
        calls += first(0, up) + first(2, up) + fault([1, 2, 1], up) + count(5, up) + least(*[up] * 5) + first(1, up)
        calls += take("") + least((0, 0, 0)) + count(2, up) + first(4, up, up)
        expected = [1, -9, 1, -9, 3, -6, 1, 3, 1, -9, 1, 4, 1, 2, 10, 3, 2, 0, 2, 2, 2, 3, 2, 1, 3, 1, 12]
        expected += [1, -1, 5, 1, 3, 1, 2, 1, 1, 0, 1, -1, 1, -1, 1, 0]
        expected += [3, -6, 1, 0, 3, -3, 1, 0, 1, 2, 5, 1, 3, 1, 2, 1]
        self.assertEqual(answers(calls), expected)

    def test_three_hundred_free_stacks(self):
        calls = first(2, (1, 1, 0)) + count(4) + least((1, 1, 0), (1, 1, 1))
        self.assertEqual(answers(take(BARS) + calls * 99), [1, 4] + [5, 1, 3, 1, 2, 1, 1, 64, 1, 2] * 99)

    def test_as_long_as_a_list_may_be(self):
        largest = 2 ** 63 - 1
        calls = take(BARS) + (first(largest, *[(-largest, largest, largest)] * 32) + count(2, (1, 1, 0))) * 150
        calls = calls[:len(take(BARS)) + 105 * 149] + least(*[(largest, -largest, largest)] * 32)
        self.assertLessEqual(len(calls), 16000)
        self.assertEqual(answers(calls), [1, 4] + [1, -1, 1, 2] * 149 + [1, -1])

    def test_three_hundred_calls(self):
        self.assertEqual(answers(take(BARS) + PIECES * 299), [1, 4] + [10, 3, 2, 0, 2, 2, 2, 3, 2, 1, 3] * 299)

    def test_what_is_handed_in_stays(self):
        calls = take(BARS) + PRINT + PIECES + fault([1, 2, 1], (1, 2, 0), (1, 1, 1)) + take("pin A")
        calls += first(3, (1, 2, 0), (1, 1, 1)) + count(4) + count(0) + least((1, 2, 0)) + least((0, 0, 0))
        before = list(calls)
        answers(calls)
        self.assertEqual(calls, before)

    def test_what_is_given_back_is_the_callers(self):
        calls = take(BARS) + PRINT
        first = answers(calls)
        kept = list(first)
        first.append(7)
        first[5] = 0
        self.assertEqual(answers(calls), kept)
        self.assertEqual(calls, take(BARS) + PRINT)

    def test_nothing_is_kept(self):
        calls = PRINT + take(BARS) + PRINT + fault([1, 1, 2], (1, 2, 0))
        self.assertEqual(answers(calls), answers(calls))
        self.assertEqual(answers(PRINT), [1, -9])
        calls = least((1, 1, 0)) + take(BARS) + first(3, (1, 1, 0)) + count(4, (1, 1, 0)) + least((1, 1, 0))
        self.assertEqual(answers(calls), [1, -9, 1, 4, 5, 1, 3, 1, 2, 1, 1, 36, 1, 2])
        self.assertEqual(answers(calls), [1, -9, 1, 4, 5, 1, 3, 1, 2, 1, 1, 36, 1, 2])

    def test_whole_numbers_alone(self):
        calls = PRINT + take("pin") + take(BARS) + PRINT + PIECES + fault([1, 2, 2], (1, 2, 0)) + fault([1, 2, 1])
        calls += first(4) + first(1, (1, 1, 0)) + count(3, (1, 1, 0)) + least() + first(0) + count(1, (0, 0, 0))
        given = answers(calls)
        self.assertEqual(type(given), list)
        self.assertEqual({type(number) for number in given}, {int})


if __name__ == "__main__":
    unittest.main()
