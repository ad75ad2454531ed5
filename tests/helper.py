"""What the tests share: the document's rules in another form, and what is asked of every call."""

import builtins
import contextlib
import io
import re
import sys
from unittest import mock

from cornersquares import pictures

LEAST_INT = -2147483648
MOST_INT = 2147483647

# Cells a side: words of data, words that mend, regions a side.
TABLE = {
    10: (3, 5, 1), 12: (5, 7, 1), 14: (8, 10, 1), 16: (12, 12, 1), 18: (18, 14, 1),
    20: (22, 18, 1), 22: (30, 20, 1), 24: (36, 24, 1), 26: (44, 28, 1),
    32: (62, 36, 2), 36: (86, 42, 2), 40: (114, 48, 2), 44: (144, 56, 2), 48: (174, 68, 2),
}
SIZES = tuple(TABLE)
NO_SIZES = (0, -1, -10, -48, 9, 11, 28, 30, 34, 46, 50, LEAST_INT, MOST_INT)


def count_of(size):
    """How many words a size has, the data's and those that mend."""
    return TABLE[size][0] + TABLE[size][1]


def most_wrong(size):
    """How many wrong words can be mended at the most."""
    return TABLE[size][1] // 2


def told(text):
    """The numbers of a text, sign by sign: tests are easier to read so."""
    return list(text.encode("latin-1"))


def any_numbers(seed, length, bound):
    """Numbers from 0 to below the bound without a plan, but the same ones each time."""
    found = []
    state = seed
    for _ in range(length):
        state = (state * 6364136223846793005 + 1442695040888963407) % 2 ** 64
        found.append((state >> 33) % bound)
    return found


def mixed_bytes(seed, length):
    """Bytes with many digits and high bytes among them, the same ones each time."""
    data = []
    for pick in any_numbers(seed, length, 2 ** 30):
        choice = pick % 4
        if choice < 2:
            data.append(48 + (pick >> 2) % 10)
        elif choice == 2:
            data.append((pick >> 2) % 128)
        else:
            data.append(128 + (pick >> 2) % 128)
    return data


def expected_words(data):
    """The document's words found in another way: by a pattern that takes pairs from the left."""
    found = []
    for part in re.findall(rb"[0-9][0-9]|[\x00-\xff]", bytes(data), re.DOTALL):
        if len(part) == 2:
            found.append(130 + int(part))
        elif part[0] < 128:
            found.append(part[0] + 1)
        else:
            found.append(235)
            found.append(part[0] - 127)
    return found


def mixed_bytes_of_words(count, seed):
    """Mixed bytes that make just so many words."""
    data = mixed_bytes(seed, 2 * count)
    while len(expected_words(data)) > count:
        data.pop()
    return data + [0] * (count - len(expected_words(data)))


def filling(place):
    """The word at a place behind the 129."""
    word = 130 + (149 * place) % 253
    return word - 254 if word > 254 else word


def filled_up(found, size):
    """The data's words of a size: those found, the 129 and what follows it."""
    room = TABLE[size][0]
    behind = ([129] + [filling(place) for place in range(len(found) + 2, room + 1)])[:room - len(found)]
    return found + behind


# The field: each product by adding up shifted numbers, bit by bit.

def long_product(left, right):
    value = 0
    for bit in range(8):
        if right >> bit & 1:
            value ^= left << bit
    for bit in range(15, 7, -1):
        if value >> bit & 1:
            value ^= 0x12D << (bit - 8)
    return value


TIMES = [[long_product(left, right) for right in range(256)] for left in range(256)]
INVERSE = [0] + [TIMES[number].index(1) for number in range(1, 256)]
POWERS = [1]
while len(POWERS) < 255:
    POWERS.append(TIMES[POWERS[-1]][2])


def value_at(factors, point):
    """The value of a polynomial, the highest power's factor first."""
    value = 0
    for factor in factors:
        value = TIMES[value][point] ^ factor
    return value


def sums_of(found, count):
    """The values at a, a^2, ..., a^count."""
    return [value_at(found, POWERS[exponent % 255]) for exponent in range(1, count + 1)]


def is_as_it_must_be(size, found):
    data, mending, _ = TABLE[size]
    return len(found) == data + mending and not any(sums_of(found, mending))


def polynomial_with_roots(exponents):
    """The polynomial with a 1 in front that is 0 at those powers of a."""
    factors = [1]
    for exponent in exponents:
        root = POWERS[exponent % 255]
        factors = [high ^ TIMES[low][root] for high, low in zip(factors + [0], [0] + factors)]
    return factors


def row_of(size, data):
    """All words of a size, as they must be, for its data's words: by long division."""
    room, mending, _ = TABLE[size]
    assert len(data) == room
    divisor = polynomial_with_roots(range(1, mending + 1))
    rest = data + [0] * mending
    for place in range(room):
        lead = rest[place]
        for step, factor in enumerate(divisor):
            rest[place + step] ^= TIMES[lead][factor]
    found = data + rest[room:]
    assert is_as_it_must_be(size, found)
    return found


# The picture: the document's way, word by word, as its text has it.

def word_at(s, r, c):
    cells = []
    for row, column in (
        (r - 2, c - 2), (r - 2, c - 1), (r - 1, c - 2), (r - 1, c - 1), (r - 1, c), (r, c - 2), (r, c - 1), (r, c),
    ):
        if row < 0:
            row, column = row + s, column + 4 - (s + 4) % 8
        if column < 0:
            row, column = row + 4 - (s + 4) % 8, column + s
        cells.append((row, column))
    return cells


def corner_a(s):
    return [(s-1, 0), (s-1, 1), (s-1, 2), (0, s-2), (0, s-1), (1, s-1), (2, s-1), (3, s-1)]


def corner_b(s):
    return [(s-3, 0), (s-2, 0), (s-1, 0), (0, s-4), (0, s-3), (0, s-2), (0, s-1), (1, s-1)]


def corner_c(s):
    return [(s-3, 0), (s-2, 0), (s-1, 0), (0, s-2), (0, s-1), (1, s-1), (2, s-1), (3, s-1)]


def corner_d(s):
    return [(s-1, 0), (s-1, s-1), (0, s-3), (0, s-2), (0, s-1), (1, s-3), (1, s-2), (1, s-1)]


def way_through(s):
    """The eight cells of each word in a field of s rows and columns."""
    stands = []
    bits = set()

    def stand(cells):
        stands.append(cells)
        bits.update(cells)

    r, c = 4, 0
    while True:
        if (r, c) == (s, 0):
            stand(corner_a(s))
        if (r, c) == (s - 2, 0) and s % 4 != 0:
            stand(corner_b(s))
        if (r, c) == (s - 2, 0) and s % 8 == 4:
            stand(corner_c(s))
        if (r, c) == (s + 4, 2) and s % 8 == 0:
            stand(corner_d(s))
        while True:
            if r < s and c >= 0 and (r, c) not in bits:
                stand(word_at(s, r, c))
            r, c = r - 2, c + 2
            if not (r >= 0 and c < s):
                break
        r, c = r + 1, c + 3
        while True:
            if r >= 0 and c < s and (r, c) not in bits:
                stand(word_at(s, r, c))
            r, c = r + 2, c - 2
            if not (r < s and c >= 0):
                break
        r, c = r + 3, c + 1
        if not (r < s or c < s):
            return stands


def field_lines(size):
    """The picture's rows that the field's rows are; it is the same with columns."""
    region = size // TABLE[size][2]
    return [line for line in range(size) if line % region not in (0, region - 1)]


def lay_out(size):
    """The picture's cells: those of each word, and all others with what they must be."""
    lines = field_lines(size)
    s = len(lines)
    stands = [[(lines[r], lines[c]) for r, c in cells] for cells in way_through(s)]
    taken = {cell for cells in stands for cell in cells}
    fixed = border_cells(size)
    if (lines[s - 1], lines[s - 1]) not in taken:
        fixed[lines[s - 1], lines[s - 1]] = fixed[lines[s - 2], lines[s - 2]] = 1
        fixed[lines[s - 1], lines[s - 2]] = fixed[lines[s - 2], lines[s - 1]] = 0
    assert len(taken) == 8 * len(stands) and taken.isdisjoint(fixed)
    assert len(taken) + len(fixed) == size * size
    return stands, fixed


def border_cells(size):
    """Each border cell of each region, and whether it's dark."""
    regions = TABLE[size][2]
    region = size // regions
    cells = {}
    for top in range(0, size, region):
        for left in range(0, size, region):
            for step in range(region):
                cells[top, left + step] = 1 - step % 2
                cells[top + step, left + region - 1] = step % 2
            for step in range(region):
                cells[top + step, left] = 1
                cells[top + region - 1, left + step] = 1
    return cells


LAID_OUT = {size: lay_out(size) for size in SIZES}


def bit(rows, cell):
    return rows[cell[0]] >> cell[1] & 1


def turned(rows, cell):
    """The rows with one cell the other way."""
    other = list(rows)
    other[cell[0]] ^= 1 << cell[1]
    return other


def words_in(size, rows):
    stands, _ = LAID_OUT[size]
    return [int("".join(str(bit(rows, cell)) for cell in cells), 2) for cells in stands]


def picture_of(size, found):
    """The rows of a picture with those words, whatever they are."""
    stands, fixed = LAID_OUT[size]
    dark = [cell for cell, value in fixed.items() if value]
    for word, cells in zip(found, stands, strict=True):
        dark.extend(cell for cell, sign in zip(cells, format(word, "08b")) if sign == "1")
    rows = [0] * size
    for row, column in dark:
        rows[row] |= 1 << column
    return rows


# What the document asks of every call.

class GuardedList(list):
    """A list that can be read only, so that a change for a while is seen too."""

    def refuse(self, *args, **kwargs):
        raise AssertionError("what was handed in was changed")

    append = clear = extend = insert = pop = remove = reverse = sort = refuse
    __setitem__ = __delitem__ = __iadd__ = __imul__ = refuse


def copied(arguments, kind=list):
    return tuple(kind(argument) if isinstance(argument, list) else argument for argument in arguments)


class EveryCall:
    """Tests of one function over a few calls; NAMES are its arguments' names, CASES their values."""

    CALL = ""
    NAMES = ()
    CASES = ()

    def answer(self, arguments):
        return getattr(pictures, self.CALL)(*arguments)

    def answers(self):
        return [self.answer(copied(arguments)) for arguments in self.CASES]

    def test_what_is_handed_in_stays_as_it_was(self):
        for arguments in self.CASES:
            handed = copied(arguments)
            self.answer(handed)
            self.assertEqual(handed, arguments)

    def test_what_is_handed_in_is_not_changed_for_a_while_either(self):
        guarded = [self.answer(copied(arguments, GuardedList)) for arguments in self.CASES]
        self.assertEqual(guarded, self.answers())

    def test_a_call_made_again_answers_the_same(self):
        first = self.answers()
        again = [self.answer(copied(arguments)) for arguments in reversed(self.CASES)]
        self.assertEqual(first, again[::-1])
        self.assertEqual(first, self.answers())

    def test_a_changed_answer_is_not_seen_by_another_call(self):
        for arguments in self.CASES:
            handed = copied(arguments)
            answer = self.answer(handed)
            kept = list(answer)
            answer[0] = 99
            answer.append(7)
            self.assertEqual(handed, arguments)
            self.assertEqual(self.answer(handed), kept)

    def test_nothing_is_kept_in_the_module(self):
        before = {name: repr(value) for name, value in vars(pictures).items() if name != "__builtins__"}
        self.answers()
        after = {name: repr(value) for name, value in vars(pictures).items() if name != "__builtins__"}
        self.assertEqual(before, after)

    def test_a_list_of_whole_numbers_is_given_back_and_a_refusal_stands_alone(self):
        for answer in self.answers():
            self.assertIs(type(answer), list)
            for number in answer:
                self.assertIs(type(number), int)
            if answer[0] < 0:
                self.assertEqual(len(answer), 1)

    def test_the_arguments_bear_the_documents_names(self):
        call = getattr(pictures, self.CALL)
        named = [call(**dict(zip(self.NAMES, copied(arguments), strict=True))) for arguments in self.CASES]
        self.assertEqual(named, self.answers())

    def test_it_prints_reads_and_imports_nothing(self):
        expected = self.answers()
        out = io.StringIO()
        refuse = mock.Mock(side_effect=AssertionError("not to be called"))
        with contextlib.redirect_stdout(out), contextlib.redirect_stderr(out):
            with mock.patch.object(builtins, "open", refuse), mock.patch.object(builtins, "input", refuse):
                with mock.patch.object(builtins, "__import__", refuse), mock.patch.object(sys, "stdin", None):
                    found = self.answers()
        self.assertEqual(found, expected)
        self.assertEqual(out.getvalue(), "")
        refuse.assert_not_called()
