"""Promise 5: a picture is looked at, mended and read; -1, -3, -4 and -5 where it is refused.

The document as a whole is held against the whole program here too.
"""

import inspect
import itertools
import sys
import unittest

from cornersquares import pictures
from cornersquares.pictures import look, make, mend, read, words
from helper import (
    LAID_OUT, NO_SIZES, SIZES, TABLE, EveryCall, any_numbers, copied, count_of, filled_up, filling, mixed_bytes,
    mixed_bytes_of_words, most_wrong, picture_of, polynomial_with_roots, row_of, told, turned, words_in,
)


def bytes_for(size, seed=1):
    """Mixed bytes whose words fill this size up, or have room for one more."""
    return mixed_bytes_of_words(TABLE[size][0] - seed % 2, 10 * size + seed)


def spoilt(size, rows, count, seed):
    """The rows with so many words wrong, each in some of its cells."""
    stands, _ = LAID_OUT[size]
    order = any_numbers(seed, len(stands), 2 ** 30)
    places = sorted(range(len(stands)), key=lambda place: order[place])[:count]
    other = list(rows)
    for place, number in zip(places, any_numbers(seed + 5, count, 255)):
        for step, cell in enumerate(stands[place]):
            if (number + 1) >> step & 1:
                other = turned(other, cell)
    return other


def picture_with(size, data):
    """A picture whose data's words are these, with the words that mend as they must be."""
    return picture_of(size, row_of(size, data))


def too_far(size, row):
    """Words that no row as it must be is within m / 2 of: a polynomial of m / 2 + 1 terms is added."""
    half = most_wrong(size)
    found = list(row)
    for step, factor in enumerate(polynomial_with_roots(range(1, half + 1))):
        found[step] ^= factor
    return found


def expected_bytes(data):
    """The bytes of the data's words by the paragraph Read, or None."""
    found = []
    rest = list(enumerate(data, start=1))
    while rest:
        _, word = rest.pop(0)
        if word == 129:
            return found if all(other == filling(place) for place, other in rest) else None
        if word in range(1, 129):
            found.append(word - 1)
        elif word in range(130, 230):
            found.extend(told("{:02d}".format(word - 130)))
        elif word == 235 and rest and rest[0][1] in range(1, 129):
            found.append(rest.pop(0)[1] + 127)
        else:
            return None
    return found


class ReadAgain(unittest.TestCase):
    def check(self, data):
        size, *rows = make(data)
        self.assertEqual(read(size, rows), [len(data), 0] + data)
        return size

    def test_each_size(self):
        for size in SIZES:
            for seed in range(1, 7):
                self.assertEqual(self.check(bytes_for(size, seed)), size)
            self.assertEqual(self.check([65] * TABLE[size][0]), size)
            self.assertEqual(self.check([65] * (TABLE[size][0] - 1)), size)

    def test_each_length(self):
        for length in range(101):
            self.check(mixed_bytes(length, length))

    def test_every_byte(self):
        for byte in range(256):
            self.check([byte])
            self.check([byte, 48, byte])

    def test_no_bytes_at_all(self):
        size, *rows = make([])
        self.assertEqual(read(size, rows), [0, 0])

    def test_the_most_bytes(self):
        self.check(told("0123456789" * 34 + "01234567"))
        self.check([255] * 87)
        self.check([0] * 174)

    def test_digits_that_make_no_pair(self):
        self.check(told("1a2b3"))
        self.check(told("12345"))
        self.check([49, 200, 50])


class WrongWordsInThePicture(unittest.TestCase):
    def test_one_some_and_just_half(self):
        for size in SIZES:
            half = most_wrong(size)
            for seed in (1, 2):
                data = bytes_for(size, seed)
                rows = make(data)[1:]
                for count in sorted({1, 2, half // 2, half - 1, half}):
                    other = spoilt(size, rows, count, count + seed)
                    self.assertEqual(read(size, other), [len(data), count] + data, (size, count))

    def test_one_cell_of_the_field_at_a_time(self):
        for size in (10, 12, 14, 16):
            data = [70] * TABLE[size][0]
            rows = make(data)[1:]
            for cell in itertools.chain.from_iterable(LAID_OUT[size][0]):
                self.assertEqual(read(size, turned(rows, cell)), [len(data), 1] + data, (size, cell))

    def test_wrong_words_whose_reading_would_be_refused(self):
        # The words as they stand aren't read; mended, they are.
        data = told("ABC")
        found = words_in(10, make(data)[1:])
        for word in (0, 230, 255, 129, 235):
            self.assertEqual(read(10, picture_of(10, [word] + found[1:])), [3, 1] + data)
            self.assertEqual(read(10, picture_of(10, found[:2] + [word, 0] + found[4:])), [3, 2] + data)

    def test_one_wrong_too_many(self):
        for size in SIZES:
            data = [65] * TABLE[size][0]
            found = too_far(size, words_in(size, make(data)[1:]))
            self.assertEqual(read(size, picture_of(size, found)), [-4], size)


class WordsByHand(unittest.TestCase):
    def check(self, size, data, answer):
        """Of a picture with these words of data: what is read, with nothing wrong and with one word wrong."""
        self.assertEqual(len(data), TABLE[size][0])
        rows = picture_with(size, data)
        expected = [-5] if answer is None else [len(answer), 0] + answer
        self.assertEqual(read(size, rows), expected, data)
        if answer is not None:
            expected[1] = 1
        self.assertEqual(read(size, spoilt(size, rows, 1, sum(data))), expected, data)

    def check_anywhere(self, word, answer):
        """A word as the first, in the middle and as the last of the data's words."""
        for before, behind in (([], [66, 67]), ([66], [67]), ([66, 67], [])):
            read_too = None if answer is None else [w - 1 for w in before] + answer + [w - 1 for w in behind]
            self.check(10, before + [word] + behind, read_too)

    def test_0(self):
        self.check_anywhere(0, None)
        for size in SIZES:
            self.check(size, [0] * TABLE[size][0], None)

    def test_1_and_128(self):
        self.check_anywhere(1, [0])
        self.check_anywhere(128, [127])

    def test_130_and_229(self):
        self.check_anywhere(130, told("00"))
        self.check_anywhere(229, told("99"))

    def test_each_pair(self):
        for number in range(100):
            self.check(10, [130 + number, 129, filling(3)], [48 + number // 10, 48 + number % 10])

    def test_230_to_234_and_236_to_255(self):
        for word in list(range(230, 235)) + list(range(236, 256)):
            self.check_anywhere(word, None)

    def test_235_with_1_and_with_128_behind_it(self):
        self.check(10, [235, 1, 66], [128, 65])
        self.check(10, [235, 128, 66], [255, 65])
        self.check(10, [66, 235, 1], [65, 128])
        self.check(10, [66, 235, 128], [65, 255])

    def test_235_with_each_word_behind_it(self):
        for word in range(256):
            self.check(10, [235, word, 66], [word + 127, 65] if 1 <= word <= 128 else None)
            self.check(10, [66, 235, word], [65, word + 127] if 1 <= word <= 128 else None)

    def test_235_with_0_129_or_255_behind_it(self):
        for word in (0, 129, 255):
            self.check(10, [235, word, filling(3)], None)
            self.check(12, [66, 235, word, filling(4), filling(5)], None)

    def test_235_as_the_last_of_the_datas_words(self):
        self.check(10, [66, 67, 235], None)
        self.check(10, [235, 5, 235], None)
        for size in SIZES:
            self.check(size, [66] * (TABLE[size][0] - 1) + [235], None)

    def test_235_does_not_reach_into_the_words_that_mend(self):
        # The first word that mends is one of 1 to 128 here: it's no word of the data's all the same.
        for last in range(1, 129):
            data = [last, 66, 235]
            if 1 <= row_of(10, data)[3] <= 128:
                self.check(10, data, None)

    def test_235_behind_235(self):
        self.check(10, [235, 235, 1], None)
        self.check(12, [235, 1, 235, 2, 66], [128, 129, 65])

    def test_129_as_the_first(self):
        for size in SIZES:
            self.check(size, filled_up([], size), [])

    def test_129_as_the_last(self):
        for size in SIZES:
            count = TABLE[size][0] - 1
            self.check(size, [66] * count + [129], [65] * count)

    def test_129_with_the_words_behind_it_as_told(self):
        for size in SIZES:
            for count in sorted({1, TABLE[size][0] // 2, TABLE[size][0] - 2}):
                self.check(size, filled_up([66] * count, size), [65] * count)

    def test_129_with_one_of_these_other_than_told(self):
        for size in SIZES:
            room = TABLE[size][0]
            for count in sorted({0, room // 2, room - 2}):
                for place in sorted({count + 1, (count + room) // 2, room - 1} - {count, room}):
                    for change in (1, 128, 255):
                        data = filled_up([66] * count, size)
                        data[place] ^= change
                        self.check(size, data, None)

    def test_129_with_129_behind_it(self):
        self.check(10, [66, 129, 129], None)
        self.check(10, [129, 129, 129], None)
        self.check(10, [129, 175, 129], None)

    def test_129_with_words_behind_it_that_would_be_read(self):
        self.check(10, [129, 66, 67], None)
        self.check(10, [66, 129, 67], None)
        self.check(12, [66, 129, filling(2), filling(3), filling(4)], None)

    def test_no_129_at_all(self):
        for size in SIZES:
            self.check(size, [66] * TABLE[size][0], [65] * TABLE[size][0])

    def test_a_larger_size_than_the_least(self):
        for size in SIZES:
            self.check(size, filled_up([], size), [])
            self.check(size, filled_up([142], size), told("12"))

    def test_words_that_make_would_not_choose(self):
        self.check(10, [50, 51, 52], told("123"))
        self.check(10, [50, 181, 52], told("1513"))

    def test_each_word_as_each_of_the_datas_words(self):
        for word in range(256):
            for place in range(3):
                data = [66, 67, 68]
                data[place] = word
                self.check(10, data, expected_bytes(data))

    def test_words_without_a_plan(self):
        readable = [1, 128, 130, 229, 235, 5, 66, 100]
        for size in SIZES:
            for seed in range(1, 30 if size < 20 else 4):
                data = any_numbers(seed, TABLE[size][0], 256)
                self.check(size, data, expected_bytes(data))
                data = [readable[number] for number in any_numbers(seed, TABLE[size][0], len(readable))]
                self.check(size, data, expected_bytes(data))


class Refusals(unittest.TestCase):
    def test_sizes_that_are_none_of_the_tables(self):
        for size in NO_SIZES:
            self.assertEqual(read(size, []), [-1], size)
        for size in range(-100, 101):
            if size not in SIZES:
                self.assertEqual(read(size, []), [-1], size)

    def test_a_border_ahead_of_words_that_cannot_be_mended(self):
        for size in SIZES:
            rows = picture_of(size, too_far(size, row_of(size, [66] * TABLE[size][0])))
            self.assertEqual(read(size, rows), [-4])
            for cell in ((0, 0), (size - 1, 3), (5, size - 1), (4, size), (size - 1, 63)):
                self.assertEqual(read(size, turned(rows, cell)), [-3], (size, cell))

    def test_a_border_ahead_of_words_that_are_not_read(self):
        for size in SIZES:
            rows = picture_with(size, [0] * TABLE[size][0])
            self.assertEqual(read(size, rows), [-5])
            for cell in ((0, 1), (size - 1, 0), (0, size), (size - 1, 63)):
                self.assertEqual(read(size, turned(rows, cell)), [-3], (size, cell))

    def test_a_border_by_itself(self):
        for size in SIZES:
            rows = make([65] * TABLE[size][0])[1:]
            for cell in list(LAID_OUT[size][1])[::3]:
                self.assertEqual(read(size, turned(rows, cell)), [-3], (size, cell))

    def test_words_that_cannot_be_mended_ahead_of_those_that_are_not_read(self):
        for size in SIZES:
            found = too_far(size, row_of(size, [0] * TABLE[size][0]))
            self.assertEqual(read(size, picture_of(size, found)), [-4], size)

    def test_words_that_are_mended_but_not_read(self):
        for size in SIZES:
            rows = spoilt(size, picture_with(size, [255] * TABLE[size][0]), most_wrong(size), 3)
            self.assertEqual(read(size, rows), [-5], size)

    def test_words_that_would_be_read_before_they_are_mended(self):
        row = row_of(10, [66, 67, 0])
        for word in (66, 130, 129):
            self.assertEqual(read(10, picture_of(10, row[:2] + [word] + row[3:])), [-5])

    def test_rows_that_are_no_picture(self):
        for size in SIZES:
            self.assertEqual(read(size, [0] * size), [-3])
            self.assertEqual(read(size, [18446744073709551615] * size), [-3])


class EveryCallOfRead(EveryCall, unittest.TestCase):
    CALL = "read"
    NAMES = ("size", "rows")
    CASES = (
        (10, make(told("123456"))[1:]),
        (48, spoilt(48, make([65] * 174)[1:], 34, 1)),
        (36, make([200] * 40)[1:]),
        (12, turned(make(told("12345678"))[1:], (0, 0))),
        (10, picture_of(10, too_far(10, row_of(10, [1, 2, 3])))),
        (10, picture_with(10, [66, 235, 0])),
        (28, []),
    )

    def test_the_answers_are_the_documents(self):
        self.assertEqual(self.answers(), [
            [6, 0] + told("123456"), [174, 34] + [65] * 174, [40, 0] + [200] * 40, [-3], [-4], [-5], [-1],
        ])

    def test_the_same_list_with_other_rows_is_read_anew(self):
        rows = make(told("12"))[1:]
        self.assertEqual(read(10, rows), [2, 0] + told("12"))
        rows[:] = make(told("ab"))[1:]
        self.assertEqual(read(10, rows), [2, 0] + told("ab"))


class TheWholeProgram(unittest.TestCase):
    CALLS = (
        (words, (174, told("x123y45") + [200])),
        (words, (0, told("1"))),
        (make, (told("123456"),)),
        (make, ([65] * 175,)),
        (make, ([200] * 60,)),
        (look, (10, make(told("123456"))[1:])),
        (look, (44, [0] * 44)),
        (look, (30, [])),
        (mend, (10, [0, 164, 186, 114, 25, 5, 0, 102])),
        (mend, (10, [255] * 8)),
        (mend, (9, [])),
        (read, (10, make(told("123456"))[1:])),
        (read, (48, spoilt(48, make([7] * 170)[1:], 34, 9))),
        (read, (10, picture_with(10, [0, 0, 0]))),
    )

    def test_each_call_answers_the_same_behind_each_other_call(self):
        alone = [call(*copied(arguments)) for call, arguments in self.CALLS]
        for first in range(len(self.CALLS)):
            for second in range(len(self.CALLS)):
                for number in (first, second, first):
                    call, arguments = self.CALLS[number]
                    handed = copied(arguments)
                    self.assertEqual(call(*handed), alone[number], (first, second))
                    self.assertEqual(handed, arguments)

    def test_read_is_look_and_mend_and_the_bytes(self):
        for size in SIZES:
            for count in (0, 1, most_wrong(size)):
                data = [66 + number for number in any_numbers(size, TABLE[size][0], 50)]
                rows = spoilt(size, make(data)[1:], count, size)
                seen = look(size, rows)
                right = mend(size, seen[1:])
                self.assertEqual(seen[0], count_of(size))
                self.assertEqual(right[0], count)
                self.assertEqual(right[1:TABLE[size][0] + 1], words(174, data)[1:])
                self.assertEqual(read(size, rows), [len(data), count] + data)

    def test_the_interface(self):
        arguments = {
            "words": ["most", "data"], "make": ["data"], "look": ["size", "rows"],
            "mend": ["size", "words"], "read": ["size", "rows"],
        }
        for name, names in arguments.items():
            self.assertEqual(list(inspect.signature(getattr(pictures, name)).parameters), names)

    def test_no_call_goes_deep(self):
        calls = [(call, copied(arguments)) for call, arguments in self.CALLS]
        self.assertLess(depth_of(calls), 20)


def depth_of(calls):
    """How many calls stand within one another at the most."""
    depth = [0, 0]

    def watch(frame, event, value):
        if event == "call":
            depth[0] += 1
            depth[1] = max(depth)
        elif event == "return":
            depth[0] -= 1

    sys.setprofile(watch)
    try:
        for call, arguments in calls:
            call(*arguments)
    finally:
        sys.setprofile(None)
    return depth[1]


if __name__ == "__main__":
    unittest.main()
