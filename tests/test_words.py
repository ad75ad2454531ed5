"""Promise 1: the words of the bytes, how many and they; -1 and -2 where they are refused."""

import unittest

from cornersquares.pictures import words
from helper import LEAST_INT, MOST_INT, EveryCall, expected_words, mixed_bytes, told

ROOM = 174


def expected_answer(most, data):
    if len(data) > 348:
        return [-1]
    found = expected_words(data)
    if len(found) > min(most, 174):
        return [-2]
    return [len(found)] + found


class OrdinaryBytes(unittest.TestCase):
    def check(self, data, found):
        self.assertEqual(words(ROOM, data), [len(found)] + found)

    def test_bytes_that_are_no_digits(self):
        self.check(told("A"), [66])
        self.check(told("Hello!"), [73, 102, 109, 109, 112, 34])

    def test_a_pair_of_digits(self):
        self.check(told("12"), [142])
        self.check(told("07"), [137])
        self.check(told("70"), [200])

    def test_several_pairs(self):
        self.check(told("123456"), [142, 164, 186])

    def test_a_digit_alone(self):
        self.check(told("5"), [54])
        self.check(told("a5b"), [98, 54, 99])

    def test_an_odd_run_takes_its_pairs_from_the_left(self):
        self.check(told("123"), [142, 52])
        self.check(told("98765"), [228, 206, 54])
        self.check(told("x123y45"), [121, 142, 52, 122, 175])

    def test_digits_parted_by_another_byte_are_no_pair(self):
        self.check(told("1a2"), [50, 98, 51])
        self.check([49, 200, 50], [50, 235, 73, 51])
        self.check(told("1 23 4"), [50, 33, 153, 33, 53])

    def test_high_bytes_are_two_words_each(self):
        self.check([200], [235, 73])
        self.check([128, 255, 129], [235, 1, 235, 128, 235, 2])

    def test_mixes(self):
        self.check([65, 49, 50, 200], [66, 142, 235, 73])
        self.check([51, 240, 48, 48, 7, 57], [52, 235, 113, 130, 8, 58])

    def test_no_words_follow_the_data(self):
        for length in range(0, 30):
            self.check([90] * length, [91] * length)


class NamedEdges(unittest.TestCase):
    def test_no_bytes_at_all(self):
        self.assertEqual(words(ROOM, []), [0])

    def test_single_bytes_at_the_bounds(self):
        bounds = {
            0: [1, 1],
            47: [1, 48],
            48: [1, 49],
            57: [1, 58],
            58: [1, 59],
            127: [1, 128],
            128: [2, 235, 1],
            255: [2, 235, 128],
        }
        for byte, answer in bounds.items():
            self.assertEqual(words(ROOM, [byte]), answer, byte)

    def test_neighbours_of_the_digits_make_no_pair(self):
        self.assertEqual(words(ROOM, [47, 48]), [2, 48, 49])
        self.assertEqual(words(ROOM, [48, 47]), [2, 49, 48])
        self.assertEqual(words(ROOM, [57, 58]), [2, 58, 59])
        self.assertEqual(words(ROOM, [58, 57]), [2, 59, 58])

    def test_the_least_and_the_greatest_pair(self):
        self.assertEqual(words(ROOM, told("00")), [1, 130])
        self.assertEqual(words(ROOM, told("99")), [1, 229])
        self.assertEqual(words(ROOM, told("09")), [1, 139])
        self.assertEqual(words(ROOM, told("90")), [1, 220])

    def test_348_digits_fit_and_are_174_words(self):
        self.assertEqual(words(ROOM, told("00" * 174)), [174] + [130] * 174)
        self.assertEqual(words(MOST_INT, told("99" * 174)), [174] + [229] * 174)

    def test_347_digits_end_with_one_alone(self):
        self.assertEqual(words(ROOM, told("12" * 173 + "3")), [174] + [142] * 173 + [52])

    def test_174_words_fit(self):
        self.assertEqual(words(ROOM, [65] * 174), [174] + [66] * 174)
        self.assertEqual(words(ROOM, [255] * 87), [174] + [235, 128] * 87)
        self.assertEqual(words(ROOM, [65] * 172 + [128]), [174] + [66] * 172 + [235, 1])

    def test_most_just_as_many_as_the_words(self):
        self.assertEqual(words(4, [65, 49, 50, 200]), [4, 66, 142, 235, 73])
        self.assertEqual(words(1, told("12")), [1, 142])
        self.assertEqual(words(2, [200]), [2, 235, 73])
        self.assertEqual(words(0, []), [0])

    def test_most_above_the_words(self):
        self.assertEqual(words(5, [65, 49, 50, 200]), [4, 66, 142, 235, 73])
        self.assertEqual(words(MOST_INT, [65]), [1, 66])


class Refusals(unittest.TestCase):
    def test_more_than_348_bytes(self):
        for length in (349, 350, 399, 400):
            self.assertEqual(words(MOST_INT, told("1") * length), [-1], length)
            self.assertEqual(words(MOST_INT, [200] * length), [-1], length)

    def test_348_bytes_are_not_too_many_bytes(self):
        self.assertEqual(words(MOST_INT, [65] * 348), [-2])
        self.assertEqual(words(MOST_INT, told("1" * 346 + "a1")), [-2])

    def test_more_than_174_words(self):
        self.assertEqual(words(MOST_INT, [65] * 175), [-2])
        self.assertEqual(words(175, [65] * 175), [-2])
        self.assertEqual(words(MOST_INT, [255] * 88), [-2])
        self.assertEqual(words(MOST_INT, [65] * 173 + [128]), [-2])
        self.assertEqual(words(MOST_INT, told("1" * 345 + "a1")), [-2])

    def test_more_words_than_most(self):
        self.assertEqual(words(3, [65, 49, 50, 200]), [-2])
        self.assertEqual(words(0, told("12")), [-2])
        self.assertEqual(words(1, [200]), [-2])
        self.assertEqual(words(1, told("123")), [-2])
        self.assertEqual(words(173, told("12" * 174)), [-2])
        self.assertEqual(words(0, [0]), [-2])

    def test_most_below_0_refuses_no_bytes_too(self):
        for most in (-1, -2, LEAST_INT):
            self.assertEqual(words(most, []), [-2], most)
            self.assertEqual(words(most, [65]), [-2], most)

    def test_too_many_bytes_is_told_ahead_of_too_many_words(self):
        for most in (LEAST_INT, -1, 0, 174, 175, MOST_INT):
            self.assertEqual(words(most, [65] * 349), [-1], most)
            self.assertEqual(words(most, told("12" * 174 + "3")), [-1], most)
            self.assertEqual(words(most, [255] * 400), [-1], most)


class AgainstThePattern(unittest.TestCase):
    def test_every_byte(self):
        for byte in range(256):
            self.assertEqual(words(ROOM, [byte]), expected_answer(ROOM, [byte]))

    def test_every_two_bytes(self):
        for first in range(256):
            for second in range(256):
                data = [first, second]
                self.assertEqual(words(ROOM, data), expected_answer(ROOM, data))

    def test_long_mixes_of_every_length(self):
        for length in range(401):
            data = mixed_bytes(length + 1, length)
            count = len(expected_words(data))
            for most in (0, count - 1, count, count + 1, ROOM, MOST_INT):
                self.assertEqual(words(most, data), expected_answer(most, data), (most, length))


class EveryCallOfWords(EveryCall, unittest.TestCase):
    CALL = "words"
    NAMES = ("most", "data")
    CASES = (
        (ROOM, told("x123y45") + [200]),
        (ROOM, []),
        (2, told("abc")),
        (ROOM, [65] * 175),
        (ROOM, told("12" * 174)),
        (ROOM, told("1") * 349),
    )

    def test_the_answers_are_the_documents(self):
        self.assertEqual(self.answers(), [expected_answer(most, data) for most, data in self.CASES])

    def test_the_same_list_with_other_bytes_is_read_anew(self):
        data = told("12")
        self.assertEqual(words(ROOM, data), [1, 142])
        data[1] = 65
        self.assertEqual(words(ROOM, data), [2, 50, 66])


if __name__ == "__main__":
    unittest.main()
