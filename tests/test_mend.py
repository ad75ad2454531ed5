"""Promise 4: words are mended, as many as were wrong and they; -1 and -4 where they are refused."""

import itertools
import unittest

from cornersquares.pictures import look, make, mend
from helper import (
    INVERSE, NO_SIZES, POWERS, SIZES, TABLE, TIMES, EveryCall, any_numbers, count_of, is_as_it_must_be, mixed_bytes,
    most_wrong, polynomial_with_roots, row_of, sums_of, told,
)


def any_row(size, seed=1):
    """A row of words as it must be, without another plan."""
    return row_of(size, any_numbers(1000 * seed + size, TABLE[size][0], 256))


def any_places(size, seed, count):
    """So many places of a size's words, each once."""
    order = any_numbers(1000 * seed + size + 7, count_of(size), 2 ** 30)
    return sorted(range(count_of(size)), key=lambda place: order[place])[:count]


def wrong_at(row, places, seed=1):
    """The words with those at the places wrong, each by a number other than 0."""
    found = list(row)
    for place, number in zip(places, any_numbers(seed, len(places), 255)):
        found[place] ^= number + 1
    return found


def changed_by(row, factors, start):
    """The words with a polynomial's factors added from a place on."""
    found = list(row)
    for step, factor in enumerate(factors):
        found[start + step] ^= factor
    return found


def differing(left, right):
    return sum(one != other for one, other in zip(left, right, strict=True))


# The same question answered in another way: by systems of equations over the field.

def cleared(matrix):
    """The matrix brought to its plainest form, and in which column each of its rows begins."""
    rows = [list(row) for row in matrix]
    begins = []
    for column in range(len(rows[0])):
        top = len(begins)
        lead = next((row for row in range(top, len(rows)) if rows[row][column]), None)
        if lead is None:
            continue
        rows[top], rows[lead] = rows[lead], rows[top]
        scale = TIMES[INVERSE[rows[top][column]]]
        rows[top] = [scale[number] for number in rows[top]]
        for row in range(len(rows)):
            if row != top and rows[row][column]:
                scale = TIMES[rows[row][column]]
                rows[row] = [number ^ scale[above] for number, above in zip(rows[row], rows[top])]
        begins.append(column)
    return rows, begins


def kernel_vector(matrix):
    """A vector other than 0 that each row of the matrix makes 0; there are more columns than rows."""
    rows, begins = cleared(matrix)
    free = next(column for column in range(len(matrix[0])) if column not in begins)
    vector = [0] * len(matrix[0])
    vector[free] = 1
    for row, column in enumerate(begins):
        vector[column] = rows[row][free]
    return vector


def mended_at(size, found, places):
    """The row as it must be that differs from the words at those places alone, or None."""
    last = count_of(size) - 1
    sums = sums_of(found, TABLE[size][1])
    matrix = [
        [POWERS[(last - place) * exponent % 255] for place in places] + [total]
        for exponent, total in enumerate(sums, start=1)
    ]
    rows, begins = cleared(matrix)
    if len(places) in begins:
        return None
    row = list(found)
    for line, column in enumerate(begins):
        row[places[column]] ^= rows[line][-1]
    return row


def expected_row(size, found):
    """The row as it must be that differs at m / 2 places at the most, or None: by Peterson's equations."""
    most = most_wrong(size)
    last = count_of(size) - 1
    sums = sums_of(found, TABLE[size][1])
    # Each vector that solves these is 0 at every wrong word, if there are no more than m / 2 of them.
    vector = kernel_vector([[sums[line + most - column] for column in range(most + 1)] for line in range(most)])
    places = []
    for place in range(count_of(size)):
        point = POWERS[-(last - place) % 255]
        value = 0
        for factor in reversed(vector):
            value = TIMES[value][point] ^ factor
        if value == 0:
            places.append(place)
    row = mended_at(size, found, places)
    if row is not None:
        assert is_as_it_must_be(size, row) and differing(row, found) <= most
    return row


def expected_answer(size, found):
    row = expected_row(size, found)
    return [-4] if row is None else [differing(row, found)] + row


def tried_answer(size, found):
    """The same, by trying each choice of m / 2 places: for the least sizes alone."""
    for places in itertools.combinations(range(count_of(size)), most_wrong(size)):
        row = mended_at(size, found, places)
        if row is not None:
            return [differing(row, found)] + row
    return [-4]


class MendCase(unittest.TestCase):
    def check(self, size, row, places, seed=1):
        found = wrong_at(row, places, seed)
        self.assertEqual(mend(size, found), [len(places)] + row, (size, places))

    def check_promise(self, size, found):
        """What is answered is a row as it must be, and differs at just as many places as it says."""
        answer = mend(size, found)
        if answer != [-4]:
            self.assertEqual(len(answer), 1 + count_of(size))
            self.assertTrue(is_as_it_must_be(size, answer[1:]))
            self.assertEqual(differing(answer[1:], found), answer[0])
            self.assertLessEqual(answer[0], most_wrong(size))
        return answer


class NothingWrong(unittest.TestCase):
    def test_rows_as_they_must_be(self):
        for size in SIZES:
            for seed in range(1, 6):
                row = any_row(size, seed)
                self.assertEqual(mend(size, row), [0] + row)

    def test_what_make_made(self):
        for length in range(0, 100, 9):
            answer = make(mixed_bytes(length, length))
            found = look(answer[0], answer[1:])[1:]
            self.assertEqual(mend(answer[0], found), [0] + found)

    def test_the_words_of_six_digits(self):
        row = [142, 164, 186, 114, 25, 5, 88, 102]
        self.assertEqual(mend(10, row), [0] + row)

    def test_words_that_are_all_0(self):
        for size in SIZES:
            self.assertEqual(mend(size, [0] * count_of(size)), [0] + [0] * count_of(size))


class SomeWrong(MendCase):
    def test_the_words_of_six_digits(self):
        row = [142, 164, 186, 114, 25, 5, 88, 102]
        self.assertEqual(mend(10, [142, 164, 186, 114, 25, 5, 88, 103]), [1] + row)
        self.assertEqual(mend(10, [0, 164, 186, 114, 25, 5, 0, 102]), [2] + row)

    def test_one_wrong_word_at_each_place(self):
        for size in SIZES:
            row = any_row(size)
            for place in range(count_of(size)):
                self.check(size, row, [place], place + 1)

    def test_one_wrong_word_by_each_value(self):
        for size in SIZES:
            row = any_row(size)
            for value in range(1, 256):
                found = list(row)
                found[value % count_of(size)] ^= value
                self.assertEqual(mend(size, found), [1] + row, (size, value))

    def test_each_number_of_wrong_words(self):
        for size in SIZES:
            for count in range(most_wrong(size) + 1):
                for seed in (1, 2, 3):
                    self.check(size, any_row(size, seed), any_places(size, 10 * count + seed, count), seed)

    def test_two_wrong_words_by_each_value(self):
        for size in (10, 12, 14):
            row = any_row(size)
            for value in range(1, 256):
                found = list(row)
                found[0] ^= value
                found[-1] ^= 256 - value
                self.assertEqual(mend(size, found), [2] + row, (size, value))

    def test_two_wrong_words_at_each_two_places(self):
        for size in (10, 12, 14, 16, 18):
            row = any_row(size)
            for places in itertools.combinations(range(count_of(size)), 2):
                self.check(size, row, places, sum(places) + 1)


class JustHalfWrong(MendCase):
    """As many wrong words as m / 2, rounded down."""

    def test_without_a_plan(self):
        for size in SIZES:
            for seed in range(1, 9):
                self.check(size, any_row(size, seed), any_places(size, seed, most_wrong(size)), seed)

    def test_among_the_datas_words(self):
        for size in SIZES:
            places = [place for place in any_places(size, 3, count_of(size)) if place < TABLE[size][0]]
            self.check(size, any_row(size), places[:most_wrong(size)])

    def test_among_the_words_that_mend(self):
        for size in SIZES:
            places = [place for place in any_places(size, 4, count_of(size)) if place >= TABLE[size][0]]
            self.check(size, any_row(size), places[:most_wrong(size)])

    def test_side_by_side_from_each_place_on(self):
        for size in SIZES:
            row = any_row(size)
            for start in range(count_of(size) - most_wrong(size) + 1):
                self.check(size, row, range(start, start + most_wrong(size)), start + 1)

    def test_at_the_first_places_and_at_the_last(self):
        for size in SIZES:
            half = most_wrong(size)
            self.check(size, any_row(size), range(half))
            self.check(size, any_row(size), range(count_of(size) - half, count_of(size)))
            self.check(size, any_row(size), [0, count_of(size) - 1] + list(range(5, 3 + half)))

    def test_far_apart(self):
        for size in SIZES:
            half = most_wrong(size)
            places = [number * (count_of(size) - 1) // (half - 1) for number in range(half)]
            self.assertEqual((places[0], places[-1]), (0, count_of(size) - 1))
            self.check(size, any_row(size), places)

    def test_all_by_the_same_value(self):
        for size in SIZES:
            row = any_row(size)
            places = any_places(size, 6, most_wrong(size))
            for value in range(1, 256, 1 if size < 20 else 23):
                found = list(row)
                for place in places:
                    found[place] ^= value
                self.assertEqual(mend(size, found), [len(places)] + row, (size, value))

    def test_words_lost_as_0_or_as_255(self):
        for size in SIZES:
            row = any_row(size)
            for word in (0, 255):
                found = list(row)
                for place in any_places(size, 7, most_wrong(size)):
                    found[place] = word
                self.assertEqual(mend(size, found), [differing(found, row)] + row)

    def test_near_the_row_that_is_all_0(self):
        for size in SIZES:
            self.check(size, [0] * count_of(size), any_places(size, 8, most_wrong(size)))

    def test_each_choice_of_places_in_the_least_sizes(self):
        for size in (10, 12):
            row = any_row(size)
            for places in itertools.combinations(range(count_of(size)), most_wrong(size)):
                self.check(size, row, places, sum(places) + 1)


class OneWrongTooMany(MendCase):
    def test_words_that_are_far_from_every_row(self):
        # A polynomial that is 0 at h powers of a in a row, and not at all m, is of h + 1 or more terms; so is it
        # with any row as it must be added. With h = m / 2 no row differs from it at m / 2 or fewer places.
        for size in SIZES:
            half = most_wrong(size)
            row = any_row(size)
            for first in range(1, TABLE[size][1] - half + 2):
                factors = polynomial_with_roots(range(first, first + half))
                self.assertEqual(len([factor for factor in factors if factor]), half + 1)
                for start in (0, first % (count_of(size) - half), count_of(size) - half - 1):
                    found = changed_by(row, factors, start)
                    self.assertEqual(differing(found, row), half + 1)
                    self.assertEqual(mend(size, found), [-4], (size, first, start))

    def test_words_that_are_0_at_all_powers_but_one(self):
        # These differ from every row as it must be at m places or more.
        for size in SIZES:
            mending = TABLE[size][1]
            for exponents in (range(1, mending), range(2, mending + 1)):
                factors = polynomial_with_roots(exponents)
                for scale in (1, 2, 255):
                    found = changed_by(any_row(size), [TIMES[scale][factor] for factor in factors], 1)
                    self.assertEqual(mend(size, found), [-4], (size, scale))

    def test_without_a_plan(self):
        for size in SIZES:
            for seed in range(1, 13):
                found = wrong_at(any_row(size, seed), any_places(size, seed, most_wrong(size) + 1), seed)
                answer = self.check_promise(size, found)
                self.assertEqual(answer, expected_answer(size, found), (size, seed))
                self.assertNotEqual(answer[1:], any_row(size, seed))


class NearAnotherRow(MendCase):
    """Rows that differ at just m + 1 places: what lies between them belongs to the nearer one."""

    def check_between(self, size, row, other):
        places = [place for place in range(count_of(size)) if row[place] != other[place]]
        self.assertEqual(len(places), TABLE[size][1] + 1)
        self.assertTrue(is_as_it_must_be(size, other))
        for count in range(len(places) + 1):
            found = list(row)
            for place in places[:count]:
                found[place] = other[place]
            left = len(places) - count
            if count <= most_wrong(size):
                self.assertEqual(mend(size, found), [count] + row, (size, count))
            elif left <= most_wrong(size):
                self.assertEqual(mend(size, found), [left] + other, (size, count))
            else:
                # With an odd m there is a middle that is as far from the one as from the other.
                self.assertEqual(self.check_promise(size, found), expected_answer(size, found), (size, count))

    def test_rows_that_differ_side_by_side(self):
        for size in SIZES:
            factors = polynomial_with_roots(range(1, TABLE[size][1] + 1))
            row = any_row(size)
            for start in {0, TABLE[size][0] // 2, TABLE[size][0] - 1}:
                self.check_between(size, row, changed_by(row, factors, start))

    def test_rows_that_differ_far_apart(self):
        for size in SIZES:
            row = any_row(size)
            last = count_of(size) - 1
            places = sorted(any_places(size, 5, TABLE[size][1] + 1))
            points = [POWERS[(last - place) % 255] for place in places]
            other = list(row)
            # Lagrange's numbers: their sum with each power of the points up to the m-th is 0.
            for place, point in zip(places, points):
                value = point
                for another in points:
                    value = TIMES[value][point ^ another] if another != point else value
                other[place] ^= INVERSE[value]
            self.check_between(size, row, other)


class WithoutAPlan(MendCase):
    def test_words_that_are_all_255(self):
        for size in SIZES:
            found = [255] * count_of(size)
            self.assertEqual(self.check_promise(size, found), expected_answer(size, found), size)

    def test_words_of_one_value(self):
        for size in SIZES:
            for word in (1, 2, 128, 129, 254):
                found = [word] * count_of(size)
                self.assertEqual(self.check_promise(size, found), expected_answer(size, found), (size, word))

    def test_words_without_any_plan(self):
        for size in SIZES:
            for seed in range(1, 200 if size < 20 else 20):
                found = any_numbers(seed, count_of(size), 256)
                self.assertEqual(self.check_promise(size, found), expected_answer(size, found), (size, seed))

    def test_small_words_without_any_plan(self):
        for size in SIZES:
            for seed in range(1, 10):
                found = any_numbers(seed, count_of(size), 2)
                self.assertEqual(self.check_promise(size, found), expected_answer(size, found), (size, seed))

    def test_many_wrong_words(self):
        for size in SIZES:
            for more in (2, 3, 5):
                count = min(most_wrong(size) + more, count_of(size))
                found = wrong_at(any_row(size), any_places(size, more, count), more)
                self.assertEqual(self.check_promise(size, found), expected_answer(size, found), (size, more))

    def test_the_least_sizes_by_trying_each_choice_of_places(self):
        outcomes = {}
        for size, seeds in ((10, 500), (12, 60)):
            for seed in range(seeds):
                row = any_row(size, seed)
                found = wrong_at(row, any_places(size, seed, most_wrong(size) + seed % 3), seed)
                answer = self.check_promise(size, found)
                self.assertEqual(answer, tried_answer(size, found), (size, seed))
                self.assertEqual(answer, expected_answer(size, found), (size, seed))
                outcomes[answer[0]] = True
        self.assertIn(-4, outcomes)
        self.assertIn(2, outcomes)


class NoSuchSizes(unittest.TestCase):
    def test_sizes_that_are_none_of_the_tables(self):
        for size in NO_SIZES:
            self.assertEqual(mend(size, []), [-1], size)

    def test_each_number_up_to_100(self):
        for size in range(-100, 101):
            if size not in SIZES:
                self.assertEqual(mend(size, []), [-1], size)


class EveryCallOfMend(EveryCall, unittest.TestCase):
    CALL = "mend"
    NAMES = ("size", "words")
    CASES = (
        (10, [142, 164, 186, 114, 25, 5, 88, 102]),
        (10, [142, 164, 0, 114, 25, 5, 88, 0]),
        (48, wrong_at(any_row(48), any_places(48, 1, 34))),
        (32, any_row(32)),
        (12, changed_by(any_row(12), polynomial_with_roots(range(1, 4)), 2)),
        (11, []),
    )

    def test_the_answers_are_the_documents(self):
        row = [142, 164, 186, 114, 25, 5, 88, 102]
        self.assertEqual(self.answers(), [
            [0] + row, [2] + row, [34] + any_row(48), [0] + any_row(32), [-4], [-1],
        ])

    def test_what_is_given_back_is_not_what_was_handed_in(self):
        handed = any_row(14)
        answer = mend(14, handed)
        answer[1] ^= 255
        self.assertEqual(handed, any_row(14))

    def test_the_same_list_with_other_words_is_mended_anew(self):
        handed = any_row(14)
        self.assertEqual(mend(14, handed), [0] + any_row(14))
        handed[3] ^= 9
        self.assertEqual(mend(14, handed), [1] + any_row(14))

    def test_the_least_bytes(self):
        size, *rows = make(told("A"))
        found = look(size, rows)[1:]
        found[0] = found[7] = 0
        self.assertEqual(mend(size, found)[0:2], [2, 66])


if __name__ == "__main__":
    unittest.main()
