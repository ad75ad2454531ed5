"""Promise 3: the words of a picture as they stand; -1 and -3 where it is refused."""

import unittest

from cornersquares.pictures import look, make
from helper import (
    LAID_OUT, NO_SIZES, SIZES, TABLE, EveryCall, any_numbers, bit, border_cells, count_of, expected_words, field_lines,
    filled_up, mixed_bytes, picture_of, row_of, told, turned, words_in,
)


def any_words(size, seed=1):
    return any_numbers(seed * 100 + size, count_of(size), 256)


def any_picture(size):
    return picture_of(size, any_words(size))


def cells_without_word(size):
    """The four cells of the field that no word has, or none."""
    return [cell for cell in LAID_OUT[size][1] if cell not in border_cells(size)]


class OrdinaryPictures(unittest.TestCase):
    def test_pictures_that_make_made(self):
        for size in SIZES:
            for length in (TABLE[size][0], TABLE[size][0] - 1):
                data = [65 + place % 50 for place in range(length)]
                answer = make(data)
                self.assertEqual(answer[0], size)
                found = row_of(size, filled_up(expected_words(data), size))
                self.assertEqual(look(size, answer[1:]), [count_of(size)] + found)

    def test_pictures_of_mixed_bytes(self):
        for length in range(0, 100, 7):
            answer = make(mixed_bytes(length, length))
            found = words_in(answer[0], answer[1:])
            self.assertEqual(look(answer[0], answer[1:]), [len(found)] + found)

    def test_the_words_of_six_digits(self):
        rows = [0x155, 0x2D3, 0x083, 0x2E3, 0x043, 0x3C1, 0x037, 0x26F, 0x0B9, 0x3FF]
        self.assertEqual(look(10, rows), [8, 142, 164, 186, 114, 25, 5, 88, 102])

    def test_any_words_are_told_as_they_stand(self):
        for size in SIZES:
            for seed in range(1, 6):
                found = any_words(size, seed)
                self.assertEqual(look(size, picture_of(size, found)), [count_of(size)] + found)

    def test_words_of_one_value(self):
        for size in SIZES:
            for word in (0, 1, 85, 128, 170, 254, 255):
                found = [word] * count_of(size)
                self.assertEqual(look(size, picture_of(size, found)), [count_of(size)] + found)

    def test_one_word_other_than_0_at_each_place(self):
        for size in SIZES:
            for place in range(count_of(size)):
                found = [0] * count_of(size)
                found[place] = 1 + place % 255
                self.assertEqual(look(size, picture_of(size, found)), [count_of(size)] + found)

    def test_how_many_words_a_size_has(self):
        counts = (8, 12, 18, 24, 32, 40, 50, 60, 72, 98, 128, 162, 200, 242)
        self.assertEqual(tuple(look(size, any_picture(size))[0] for size in SIZES), counts)


class OneCellTurned(unittest.TestCase):
    def test_each_border_cell_of_each_region(self):
        for size in SIZES:
            rows = any_picture(size)
            for cell in border_cells(size):
                self.assertEqual(look(size, turned(rows, cell)), [-3], (size, cell))

    def test_each_of_the_four_cells_without_a_word(self):
        for size in SIZES:
            rows = any_picture(size)
            four = cells_without_word(size)
            self.assertEqual(len(four), 4 if size in (12, 16, 20, 24) else 0)
            for cell in four:
                self.assertEqual(look(size, turned(rows, cell)), [-3], (size, cell))

    def test_each_cell_of_the_field_changes_one_bit_of_its_word(self):
        for size in SIZES:
            found = any_words(size)
            rows = picture_of(size, found)
            for place, cells in enumerate(LAID_OUT[size][0]):
                for step, cell in enumerate(cells):
                    other = list(found)
                    other[place] ^= 128 >> step
                    self.assertEqual(look(size, turned(rows, cell)), [len(other)] + other, (size, cell))


class BitsFromTheSizeOn(unittest.TestCase):
    def test_a_bit_at_each_place_from_the_size_to_63(self):
        for size in SIZES:
            rows = any_picture(size)
            for row in (0, size // 2, size - 1):
                for column in sorted({size, size + 1, (size + 63) // 2, 62, 63}):
                    self.assertEqual(look(size, turned(rows, (row, column))), [-3], (size, row, column))

    def test_in_each_row(self):
        for size in (10, 20, 48):
            rows = any_picture(size)
            for row in range(size):
                self.assertEqual(look(size, turned(rows, (row, size))), [-3], (size, row))
                self.assertEqual(look(size, turned(rows, (row, 63))), [-3], (size, row))

    def test_all_of_them(self):
        for size in SIZES:
            rows = any_picture(size)
            above = (1 << 64) - (1 << size)
            self.assertEqual(look(size, [row | above for row in rows]), [-3])
            self.assertEqual(look(size, [18446744073709551615] * size), [-3])


class NoPictures(unittest.TestCase):
    def test_rows_that_are_all_0(self):
        for size in SIZES:
            self.assertEqual(look(size, [0] * size), [-3])

    def test_rows_that_are_all_dark(self):
        for size in SIZES:
            self.assertEqual(look(size, [(1 << size) - 1] * size), [-3])

    def test_a_picture_upside_down_or_mirrored(self):
        for size in SIZES:
            rows = any_picture(size)
            self.assertEqual(look(size, rows[::-1]), [-3])
            mirrored = [sum(bit(rows, (r, c)) << (size - 1 - c) for c in range(size)) for r in range(size)]
            self.assertEqual(look(size, mirrored), [-3])

    def test_several_wrong_cells_at_once(self):
        for size in SIZES:
            rows = any_picture(size)
            cells = sorted(border_cells(size))
            for cell in cells[::5] + cells_without_word(size):
                rows = turned(rows, cell)
            self.assertEqual(look(size, rows), [-3])

    def test_a_wrong_border_and_a_bit_from_the_size_on(self):
        for size in SIZES:
            rows = turned(turned(any_picture(size), (0, 0)), (size - 1, size))
            self.assertEqual(look(size, rows), [-3])

    def test_four_regions_are_not_one(self):
        for size in (32, 36, 40, 44, 48):
            rows = any_picture(size)
            half = size // 2
            for cell in ((half, 0), (half - 1, 3), (half, 4), (0, half), (3, half - 1), (5, half)):
                self.assertEqual(look(size, turned(rows, cell)), [-3], (size, cell))


class NoSuchSizes(unittest.TestCase):
    def test_sizes_that_are_none_of_the_tables(self):
        for size in NO_SIZES:
            self.assertEqual(look(size, []), [-1], size)

    def test_each_number_up_to_100(self):
        for size in range(-100, 101):
            if size not in SIZES:
                self.assertEqual(look(size, []), [-1], size)


class EveryCallOfLook(EveryCall, unittest.TestCase):
    CALL = "look"
    NAMES = ("size", "rows")
    CASES = (
        (10, make(told("123456"))[1:]),
        (12, any_picture(12)),
        (48, any_picture(48)),
        (32, turned(any_picture(32), (0, 0))),
        (20, turned(any_picture(20), (7, 63))),
        (16, turned(any_picture(16), (field_lines(16)[-1], field_lines(16)[-1]))),
        (11, []),
    )

    def test_the_answers_are_the_documents(self):
        answers = self.answers()
        self.assertEqual(answers[1], [12] + any_words(12))
        self.assertEqual(answers[2], [242] + any_words(48))
        self.assertEqual(answers[3:], [[-3], [-3], [-3], [-1]])

    def test_the_same_list_with_other_rows_is_looked_at_anew(self):
        rows = any_picture(14)
        self.assertEqual(look(14, rows), [18] + any_words(14))
        rows[:] = picture_of(14, [7] * 18)
        self.assertEqual(look(14, rows), [18] + [7] * 18)


if __name__ == "__main__":
    unittest.main()
