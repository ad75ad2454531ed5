"""Promise 2: the picture of the bytes, of the least size that has room; -1 and -2 where they are refused."""

import unittest

from cornersquares.pictures import Way, make
from helper import (
    LAID_OUT, SIZES, TABLE, EveryCall, any_numbers, bit, corner_a, corner_b, corner_c, corner_d, expected_words,
    field_lines, filled_up, is_as_it_must_be, mixed_bytes, mixed_bytes_of_words, picture_of, sums_of, told,
    way_through, words_in,
)

# Pictures that were made without this program and without the tests' helper: how many bytes, then the rows, each
# in as many hexadecimal digits as its size needs. The bytes are those of known_bytes.
KNOWN = {
    10: (3, (
        "1552290672110773371c73570d33ff"
    )),
    12: (4, (
        "5559f9057a8564f8a7377bd918fb25425fff"
    )),
    14: (5, (
        "15553fe100f72b53006337071bd921a103bd3e6b199525530b493fff"
    )),
    16: (9, (
        "5555d0310a37fa5703e18e075857833562afd3ff20fbc9dd6cf5b2c751ddffff"
    )),
    18: (11, (
        "155553416918f8f20c011552d321d70f07935e991592f22df502bf93ea830cb4b331870eb55295f30cbf53ffff"
    )),
    20: (13, (
        "555559517958f8fa0a051ff1dc94570787989ddd4b9edeab7522da9c3ca71c747c8e6374a93f34ab1ca0bafc7d4737dfffff"
    )),
    22: (19, (
        "155555394961158f8f2c4e0316cf3d37b5571018792685bd115bef3b6775019ba535cc210f7e6f2d5cf71074bb3d34d70b22"
        "493580bd00eeb13f45250cec813fffff"
    )),
    24: (23, (
        "555555ff5d716b818ffd4847536f0f8474d74ab87988c3fd0758edfe37755b0ba5a4ec252cfa5ff0c1f73e6dbbd1a2d71c0a"
        "2bfc7d6522c351cccbd304b2edb6d4c9573f21ffffff"
    )),
    26: (29, (
        "155555527f456d06b818124d4c4114b5f2f31575d704fb8f9385c39d19e1aef32aaf750d3bba53efdc230c7617f304fc7705"
        "ba3bb30a95d71c776a92c1edb509a974126f4d870f4f1a1214a8670966b9d23156d113ce9cd3ffffff"
    )),
    32: (42, (
        "55555555fbe5dd7569ef0981b551a82721816c8dd3ebd4d742cd38f993159ffb2dd928ed98fff175142b7fadc0b5dde5691f"
        "6ad3ed95c7035b415849ffffffff55555555e417a4792dc3582fce0981753e4f0967d8b5cd29438178ab97a785ed27031cbf"
        "d73bebd51a734cc7afbfb9674bbb1a9bd4bdd96d287b3ef1ffffffff"
    )),
    36: (58, (
        "555555555b5516b57d7ae15f7899afb6552527b7ce21db5d579e970626c87b9d00669507133acce85eedc74e7505e0dab0de"
        "d8779c0721afcf3b3c10df53f708c6ce4bbaa25673c30963cf4b1fffffffff555555555b35476097693bda6ebc392e327d60"
        "40d026da49e64bd73735c74b9cc06fdf59366042aa9931f7b5b536d8dc9f1f7f7fc7db23014eae3d8ebedf0349ec4efa7d12"
        "4e5e95053fd2aeffffffffff"
    )),
    40: (75, (
        "5555555555c29d3db575332e15b789fdf47e57676fa935e90f8593dd02171a8ef283b9975718b527335833ee858db8ff467d"
        "3e2df3ab43ef317c5d4544f7906023fd51dd6b771962b3a0bffe0f1dd3c320fb96b5b1c655df299f3b16b3feabffffffffff"
        "5555555555a58dbd507d4f4834e97ff600ddcf576e20f204b9dd237f8679725f5534298327984df502a114a6e9fb9bfe8f99"
        "53e0947aefa93f5a5757190055c759f544fddd5d3ad611ee29c64c5e70b1263ad1b73b851cbdd75b06be12adefffffffffff"
    )),
    44: (96, (
        "55555555555cd3d565b57d0bd164dff8595f867c556537a8b5de91fbdd7c7582972e37ada477bb4a677c950120ba7caeea59"
        "1dc5f14f7552e1e41ab03f30cf67dd4728dfb4ef033d5ddc774bef3faea5824bbb6b5bfd87c73c664cbfc89ebf70f549970b"
        "cd44ba4fbccb60752f5d6fb8ad86de3fffffffffff55555555555b3e6272956372ebc5a3abbe3d77f317d5196da48f827a32"
        "587777af56116db8b6b945717c2d0d313b7cbdd2b829c6f6f5e56b95941b8bfcde2268c7c53699054f2dff9d6efc07676e9e"
        "e446bab9074cf7ad6d04a6b4765f3ad5c9fd2f4117ff8416f85d84676fbe75232b3412eddfffffffffff"
    )),
    48: (115, (
        "555555555555d152c5f8757577b1ef0fbf85812f7f845717666bab1d6b0dfc3c7d96d2175e4fc318637b95d479dd1d2178b8"
        "af2ceea5999ac1b5757d3aebd723a94b937577db4da571a18b0c3ea38803fdd4170f32feef38da3feb7715f4d37f2bbadb25"
        "de29d0c5f9e15fb116c129038a01a09eb5833d79525b0f53ad5bca9d35d7f6673514b94abaabffffffffffff555555555555"
        "f7061ba4d2c5377ff95fb7efdef82180d74f70b3d1387babd5ae3ddd5c7d225a9760e191b09675e5fae70fa2cf37b3b397b6"
        "b7d5d5c108f793668613e7097daf27c716db516abafba730f58c5c5d5f070f36eb6bfcab8fec74e714a9ad12bcb9c08d2de3"
        "c2d532fc8d28c119c0d355b0f7fd27a0b5786b25998f25f1bd6501ebfd72dfb9ffffffffffff"
    )),
}

# Which sizes have four cells without a word: those whose field has 4 cells more than its words have bits.
WITH_CELLS_LEFT = (12, 16, 20, 24)


def known_bytes(size, length):
    return [(37 * place + size) % 256 for place in range(length)]


def drawn(rows):
    """The rows of a picture drawn with # for dark and . for light."""
    return [sum(1 << column for column, sign in enumerate(row) if sign == "#") for row in rows]


def least_size_for(count):
    return min(size for size in SIZES if TABLE[size][0] >= count)


def bytes_of_words(count, kind):
    """Bytes that make just so many words."""
    if kind == "letters":
        return [65 + place % 26 for place in range(count)]
    if kind == "digits":
        return [48 + number for number in any_numbers(count, 2 * count, 10)]
    if kind == "high":
        return [128 + number for number in any_numbers(count, count // 2, 128)] + [90] * (count % 2)
    return mixed_bytes_of_words(count, count)


KINDS = ("letters", "digits", "high", "mixed")


class PictureCase(unittest.TestCase):
    def check(self, data, size):
        """All that the document says of a picture of these bytes, which must have this size."""
        answer = make(data)
        self.assertEqual(answer[0], size)
        rows = answer[1:]
        self.assertEqual(len(rows), size)
        for row in rows:
            self.assertGreaterEqual(row, 0)
            self.assertEqual(row >> size, 0)
        for cell, value in LAID_OUT[size][1].items():
            self.assertEqual(bit(rows, cell), value, (size, cell))
        found = words_in(size, rows)
        data_room, mending, _ = TABLE[size]
        self.assertEqual(len(found), data_room + mending)
        self.assertEqual(found[:data_room], filled_up(expected_words(data), size))
        self.assertEqual(sums_of(found, mending), [0] * mending)
        self.assertEqual(rows, picture_of(size, found))


class TheTestsOwnRules(unittest.TestCase):
    """What the helper tells of the way is held against what the document says of the sizes."""

    def test_the_way_has_as_many_words_as_the_table(self):
        for size, (data, mending, regions) in TABLE.items():
            stands, fixed = LAID_OUT[size]
            self.assertEqual(len(stands), data + mending, size)
            side = size - 2 * regions
            self.assertEqual(len(field_lines(size)), side)
            self.assertEqual(side * side - 8 * len(stands), 4 if size in WITH_CELLS_LEFT else 0, size)
            self.assertEqual(len(fixed) + 8 * len(stands), size * size)

    def test_no_word_stands_outside_the_field(self):
        for size in SIZES:
            side = len(field_lines(size))
            for cells in way_through(side):
                for row, column in cells:
                    self.assertIn(row, range(side))
                    self.assertIn(column, range(side))


class KnownPictures(unittest.TestCase):
    def test_six_digits(self):
        self.assertEqual(make(told("123456")), [10] + drawn([
            "#.#.#.#.#.",
            "##..#.##.#",
            "##.....#..",
            "##...###.#",
            "##....#...",
            "#.....####",
            "###.##....",
            "####.##..#",
            "#..###.#..",
            "##########",
        ]))

    def test_the_words_of_six_digits(self):
        self.assertEqual(words_in(10, make(told("123456"))[1:]), [142, 164, 186, 114, 25, 5, 88, 102])

    def test_a_picture_of_each_size(self):
        self.assertEqual(tuple(KNOWN), SIZES)
        for size, (length, text) in KNOWN.items():
            width = (size + 3) // 4
            rows = [int(text[start:start + width], 16) for start in range(0, len(text), width)]
            self.assertEqual(make(known_bytes(size, length)), [size] + rows, size)


class OrdinaryBytes(PictureCase):
    def test_words_that_just_fill_a_size(self):
        for size in SIZES:
            for kind in KINDS:
                data = bytes_of_words(TABLE[size][0], kind)
                self.check(data, size)
                self.assertNotIn(129, expected_words(data))

    def test_one_word_fewer_has_129_alone_behind_it(self):
        for size in SIZES:
            count = TABLE[size][0] - 1
            for kind in KINDS:
                data = bytes_of_words(count, kind)
                self.check(data, least_size_for(count))
                self.assertEqual(words_in(size, make(data)[1:])[count], 129)

    def test_two_words_fewer_have_129_and_one_more_behind_them(self):
        for size in SIZES:
            count = TABLE[size][0] - 2
            for kind in KINDS:
                data = bytes_of_words(count, kind)
                self.check(data, least_size_for(count))
                if least_size_for(count) == size:
                    behind = words_in(size, make(data)[1:])[count:count + 2]
                    self.assertEqual(behind, [129, (149 * (count + 2) % 253 + 130 - 1) % 254 + 1])

    def test_one_word_more_takes_the_next_size(self):
        for size, following in zip(SIZES, SIZES[1:]):
            for kind in KINDS:
                self.check(bytes_of_words(TABLE[size][0] + 1, kind), following)

    def test_each_count_of_words(self):
        for count in range(175):
            self.check(bytes_of_words(count, "mixed"), least_size_for(count))

    def test_every_byte(self):
        for byte in range(256):
            self.check([byte], 10)

    def test_bytes_of_one_value(self):
        for byte in (0, 127, 128, 255):
            for length in (1, 2, 3, 20, 60, 87):
                self.check([byte] * length, least_size_for(length * (2 if byte > 127 else 1)))


class Corners(unittest.TestCase):
    """No size of the table has a way that comes by C or D, so the corners are asked for by themselves here."""

    def corners_at(self, side, row, column):
        way = Way(side)
        way.row = row
        way.column = column
        way.pass_corners()
        self.assertEqual((way.row, way.column), (row, column))
        return way.stands

    def test_corner_a(self):
        for side in range(8, 46, 2):
            self.assertEqual(self.corners_at(side, side, 0), [corner_a(side)])

    def test_corners_b_and_c(self):
        for side in range(8, 46, 2):
            corners = {0: [], 2: [corner_b(side)], 4: [corner_c(side)], 6: [corner_b(side)]}
            self.assertEqual(self.corners_at(side, side - 2, 0), corners[side % 8])

    def test_corner_d(self):
        for side in range(8, 46, 2):
            self.assertEqual(self.corners_at(side, side + 4, 2), [corner_d(side)] if side % 8 == 0 else [])

    def test_no_corner_elsewhere(self):
        for side in (8, 10, 12, 14):
            for row in range(side + 8):
                for column in range(side + 8):
                    if (row, column) not in ((side, 0), (side - 2, 0), (side + 4, 2)):
                        self.assertEqual(self.corners_at(side, row, column), [])


class FillingWords(unittest.TestCase):
    def word_at(self, size, length, place):
        """The word at a place, from 1, of the picture of so many letters, which must have that size."""
        answer = make([65] * length)
        self.assertEqual(answer[0], size)
        return words_in(size, answer[1:])[place - 1]

    def test_behind_no_bytes(self):
        # 149 * 2 = 298 is 45 mod 253: 130 + 45 = 175. 149 * 3 = 447 is 194: 130 + 194 - 254 = 70.
        self.assertEqual(words_in(10, make([])[1:])[:3], [129, 175, 70])

    def test_the_place_is_counted_from_the_first_word(self):
        # 149 * 8 = 1192 is 180 mod 253: 130 + 180 - 254 = 56.
        self.assertEqual(words_in(14, make(told("ABCDEF"))[1:])[:8], [66, 67, 68, 69, 70, 71, 129, 56])

    def test_254_is_left_as_it_is_and_255_is_not(self):
        # 149 * 28 = 4172 is 124 mod 253, and 149 * 118 = 17582 is 125.
        self.assertEqual(self.word_at(22, 25, 28), 254)
        self.assertEqual(self.word_at(44, 115, 118), 1)


class NamedEdges(PictureCase):
    def test_no_bytes_at_all(self):
        self.check([], 10)

    def test_348_digits(self):
        self.check(told("00" * 174), 48)
        self.check(told("99" * 174), 48)
        self.check(told("0123456789" * 34 + "01234567"), 48)

    def test_347_digits(self):
        self.check(told("1" * 347), 48)

    def test_174_words(self):
        self.check([65] * 174, 48)
        self.check([255] * 87, 48)
        self.check([65] * 172 + [128], 48)
        self.check(told("12" * 173 + "a"), 48)

    def test_bytes_from_128_on(self):
        self.check([128], 10)
        self.check([255], 10)
        self.check([128, 255], 12)
        self.check(list(range(128, 215)), 48)
        self.check([127, 128], 10)

    def test_a_border_cell_by_cell(self):
        for size, (data, _, regions) in TABLE.items():
            rows = make([65] * data)[1:]
            side = size // regions
            for row in range(size):
                for column in range(size):
                    dark = rows[row] >> column & 1
                    if column % side == 0 or row % side == side - 1:
                        self.assertEqual(dark, 1, (size, row, column))
                    elif row % side == 0:
                        self.assertEqual(dark, 1 if column % side % 2 == 0 else 0, (size, row, column))
                    elif column % side == side - 1:
                        self.assertEqual(dark, 1 if row % side % 2 == 1 else 0, (size, row, column))

    def test_the_four_cells_without_a_word(self):
        for size in WITH_CELLS_LEFT:
            for byte in (0, 65, 127):
                rows = make([byte] * TABLE[size][0])[1:]
                # These sizes have one region: the field's last row and column are the last but one.
                last = size - 2
                four = [bit(rows, (r, c)) for r, c in (
                    (last, last), (last - 1, last - 1), (last, last - 1), (last - 1, last))]
                self.assertEqual(four, [1, 1, 0, 0], size)


class Refusals(unittest.TestCase):
    def test_more_than_348_bytes(self):
        for length in (349, 350, 399, 400):
            self.assertEqual(make(told("1") * length), [-1], length)
            self.assertEqual(make(told("a") * length), [-1], length)

    def test_348_bytes_are_not_too_many_bytes(self):
        self.assertEqual(make([65] * 348), [-2])
        self.assertEqual(make(told("1" * 346 + "a1")), [-2])

    def test_more_than_174_words(self):
        self.assertEqual(make([65] * 175), [-2])
        self.assertEqual(make([255] * 88), [-2])
        self.assertEqual(make([65] * 173 + [128]), [-2])
        self.assertEqual(make(told("12" * 173 + "ab")), [-2])

    def test_too_many_bytes_is_told_ahead_of_too_many_words(self):
        self.assertEqual(make(told("12" * 174 + "3")), [-1])
        self.assertEqual(make([65] * 349), [-1])
        self.assertEqual(make([255] * 400), [-1])


class EveryCallOfMake(EveryCall, unittest.TestCase):
    CALL = "make"
    NAMES = ("data",)
    CASES = (
        (told("x123y45") + [200],),
        ([],),
        (told("12" * 174),),
        (mixed_bytes(3, 60),),
        ([65] * 175,),
        (told("1") * 349,),
    )

    def test_the_answers_are_pictures(self):
        for (data,), answer in zip(self.CASES[:4], self.answers()):
            self.assertTrue(is_as_it_must_be(answer[0], words_in(answer[0], answer[1:])))
            self.assertEqual(answer[0], least_size_for(len(expected_words(data))))

    def test_the_same_list_with_other_bytes_is_made_anew(self):
        data = told("12")
        first = make(data)
        data[1] = 65
        self.assertEqual(make(data), make(told("1A")))
        self.assertNotEqual(make(data), first)


if __name__ == "__main__":
    unittest.main()
