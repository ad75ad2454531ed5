"""The calls of the program; each takes whole numbers and lists of them, and answers one list."""

MOST_BYTES = 348
MOST_WORDS = 174

TOO_MANY_BYTES = -1
NO_SUCH_SIZE = -1
TOO_MANY_WORDS = -2
NOT_A_PICTURE = -3
NOT_MENDED = -4
NOT_READ = -5

FIRST_DIGIT = 48
LAST_DIGIT = 57
FIRST_HIGH_BYTE = 128

LAST_LOW_WORD = 128
END_WORD = 129
FIRST_PAIR_WORD = 130
LAST_PAIR_WORD = 229
HIGH_BYTE_WORD = 235

# The columns of the table of sizes, each by cells a side.
DATA_WORDS = {10: 3, 12: 5, 14: 8, 16: 12, 18: 18, 20: 22, 22: 30, 24: 36, 26: 44,
              32: 62, 36: 86, 40: 114, 44: 144, 48: 174}
MENDING_WORDS = {10: 5, 12: 7, 14: 10, 16: 12, 18: 14, 20: 18, 22: 20, 24: 24, 26: 28,
                 32: 36, 36: 42, 40: 48, 44: 56, 48: 68}
REGIONS = {10: 1, 12: 1, 14: 1, 16: 1, 18: 1, 20: 1, 22: 1, 24: 1, 26: 1,
           32: 2, 36: 2, 40: 2, 44: 2, 48: 2}

# x^8 + x^5 + x^3 + x^2 + 1: the top bit stands with it, so that one exclusive or takes a ninth bit away.
FIELD_POLYNOMIAL = 301
# How many powers a has before they come again.
POWERS = 255

# The eight cells of a word, seen from its place, the highest bit's first.
WORD_CELLS = ((-2, -2), (-2, -1), (-1, -2), (-1, -1), (-1, 0), (0, -2), (0, -1), (0, 0))
# In the corners a number below 0 is counted from the far end: -1 is s - 1.
CORNER_A = ((-1, 0), (-1, 1), (-1, 2), (0, -2), (0, -1), (1, -1), (2, -1), (3, -1))
CORNER_B = ((-3, 0), (-2, 0), (-1, 0), (0, -4), (0, -3), (0, -2), (0, -1), (1, -1))
CORNER_C = ((-3, 0), (-2, 0), (-1, 0), (0, -2), (0, -1), (1, -1), (2, -1), (3, -1))
CORNER_D = ((-1, 0), (-1, -1), (0, -3), (0, -2), (0, -1), (1, -3), (1, -2), (1, -1))


def is_digit(byte):
    return FIRST_DIGIT <= byte <= LAST_DIGIT


def is_pair_at(data, place):
    if place + 1 >= len(data):
        return False
    return is_digit(data[place]) and is_digit(data[place + 1])


def pair_word(tens, ones):
    return FIRST_PAIR_WORD + (tens - FIRST_DIGIT) * 10 + (ones - FIRST_DIGIT)


def byte_words(byte):
    if byte < FIRST_HIGH_BYTE:
        return [byte + 1]
    return [HIGH_BYTE_WORD, byte - (FIRST_HIGH_BYTE - 1)]


def data_words(data):
    found = []
    place = 0
    while place < len(data):
        if is_pair_at(data, place):
            found.append(pair_word(data[place], data[place + 1]))
            place = place + 2
        else:
            found.extend(byte_words(data[place]))
            place = place + 1
    return found


def words(most, data):
    """The words of the bytes, behind how many they are; or a refusal alone."""
    # Bytes are counted first: where both refusals would apply, the document tells this one ahead of the other.
    if len(data) > MOST_BYTES:
        return [TOO_MANY_BYTES]
    found = data_words(data)
    if len(found) > most or len(found) > MOST_WORDS:
        return [TOO_MANY_WORDS]
    return [len(found)] + found


def filling_word(place):
    word = 130 + 149 * place % 253
    return word if word <= 254 else word - 254


def filled(found, room):
    """The words, with those behind them that fill a size up."""
    full = list(found)
    if len(full) < room:
        full.append(END_WORD)
    while len(full) < room:
        full.append(filling_word(len(full) + 1))
    return full


class Field:
    """The field of 256 numbers; its tables are made anew for each call, since nothing is kept between calls."""

    def __init__(self):
        self.powers = []
        self.exponents = {}
        number = 1
        for exponent in range(POWERS):
            self.powers.append(number)
            self.exponents[number] = exponent
            number = number << 1
            if number > 255:
                number = number ^ FIELD_POLYNOMIAL

    def power(self, exponent):
        return self.powers[exponent % POWERS]

    def times(self, left, right):
        if left == 0 or right == 0:
            return 0
        return self.power(self.exponents[left] + self.exponents[right])

    def inverse(self, number):
        return self.power(-self.exponents[number])


def product(field, left, right):
    found = [0] * (len(left) + len(right) - 1)
    for place, factor in enumerate(left):
        for step, other in enumerate(right):
            found[place + step] = found[place + step] ^ field.times(factor, other)
    return found


def mending_words(found, count):
    """What is left when the words, moved up by count places, are divided by what is 0 at a, a^2, ..., a^count."""
    field = Field()
    divisor = [1]
    for exponent in range(1, count + 1):
        divisor = product(field, divisor, [1, field.power(exponent)])
    rest = [0] * count
    for word in found:
        lead = word ^ rest[0]
        moved = rest[1:] + [0]
        rest = [number ^ field.times(lead, factor) for number, factor in zip(moved, divisor[1:])]
    return rest


def wrapped(side, row, column):
    """The cell that is meant where a word reaches out of the field at its top or its left."""
    shift = 4 - (side + 4) % 8
    if row < 0:
        row = row + side
        column = column + shift
    if column < 0:
        column = column + side
        row = row + shift
    return (row, column)


class Way:
    """The way through a field of side rows and columns: stands gathers the cells of each word, from the first on."""

    def __init__(self, side):
        self.side = side
        self.row = 4
        self.column = 0
        self.taken = {}
        self.stands = []

    def stand(self, cells):
        self.stands.append(cells)
        for cell in cells:
            self.taken[cell] = True

    def stand_in_corner(self, corner):
        self.stand([(cell[0] % self.side, cell[1] % self.side) for cell in corner])

    def stand_here(self):
        inside = 0 <= self.row < self.side and 0 <= self.column < self.side
        if inside and (self.row, self.column) not in self.taken:
            self.stand([wrapped(self.side, self.row + cell[0], self.column + cell[1]) for cell in WORD_CELLS])

    def pass_corners(self):
        here = (self.row, self.column)
        if here == (self.side, 0):
            self.stand_in_corner(CORNER_A)
        if here == (self.side - 2, 0) and self.side % 4 != 0:
            self.stand_in_corner(CORNER_B)
        if here == (self.side - 2, 0) and self.side % 8 == 4:
            self.stand_in_corner(CORNER_C)
        if here == (self.side + 4, 2) and self.side % 8 == 0:
            self.stand_in_corner(CORNER_D)

    def move(self, down, right):
        self.row = self.row + down
        self.column = self.column + right

    def go_up(self):
        going = True
        while going:
            self.stand_here()
            self.move(-2, 2)
            going = self.row >= 0 and self.column < self.side
        self.move(1, 3)

    def go_down(self):
        going = True
        while going:
            self.stand_here()
            self.move(2, -2)
            going = self.row < self.side and self.column >= 0
        self.move(3, 1)


def way_of(size):
    way = Way(size - 2 * REGIONS[size])
    while way.row < way.side or way.column < way.side:
        way.pass_corners()
        way.go_up()
        way.go_down()
    return way


def past_borders(size, line):
    """The picture's row for a row of the field; a column is moved in the same manner."""
    region = size // REGIONS[size]
    return line // (region - 2) * region + line % (region - 2) + 1


def dark_cells(way, all_words):
    last = way.side - 1
    dark = [] if (last, last) in way.taken else [(last, last), (last - 1, last - 1)]
    for word, cells in zip(all_words, way.stands):
        for place, cell in enumerate(cells):
            if (word >> (7 - place)) & 1 == 1:
                dark.append(cell)
    return dark


def is_dark_border(region, row, column):
    if column == 0 or row == region - 1:
        return True
    if row == 0:
        return column % 2 == 0
    return column == region - 1 and row % 2 == 1


def border_row(size, row):
    region = size // REGIONS[size]
    dark = [column for column in range(size) if is_dark_border(region, row % region, column % region)]
    return sum([1 << column for column in dark])


def picture(size, way, all_words):
    rows = [border_row(size, row) for row in range(size)]
    for cell in dark_cells(way, all_words):
        row = past_borders(size, cell[0])
        rows[row] = rows[row] | (1 << past_borders(size, cell[1]))
    return rows


def make(data):
    """The picture of the bytes, of the least size that has room, behind its size; or a refusal alone."""
    found = words(MOST_WORDS, data)
    if found[0] < 0:
        return found
    size = min([side for side in DATA_WORDS if DATA_WORDS[side] >= found[0]])
    full = filled(found[1:], DATA_WORDS[size])
    return [size] + picture(size, way_of(size), full + mending_words(full, MENDING_WORDS[size]))


def word_in(size, rows, cells):
    word = 0
    for cell in cells:
        row = rows[past_borders(size, cell[0])]
        word = word * 2 + ((row >> past_borders(size, cell[1])) & 1)
    return word


def look(size, rows):
    """The words of a picture as they stand, behind how many they are; or a refusal alone."""
    if size not in DATA_WORDS:
        return [NO_SUCH_SIZE]
    way = way_of(size)
    found = [word_in(size, rows, cells) for cells in way.stands]
    # A picture of these words has the same cells wherever a word is; so only what has no word can differ.
    if picture(size, way, found) != rows:
        return [NOT_A_PICTURE]
    return [len(found)] + found


def value_at(field, factors, point):
    """The value of a polynomial whose highest power's factor comes first."""
    value = 0
    for factor in factors:
        value = field.times(value, point) ^ factor
    return value


def locator(field, sums):
    """The shortest rule by which each sum follows from those ahead of it, as Berlekamp and Massey find it."""
    rule = [1] + [0] * len(sums)
    earlier = list(rule)
    length = 0
    for step in range(len(sums)):
        earlier = [0] + earlier[:-1]
        gap = 0
        for place in range(length + 1):
            gap = gap ^ field.times(rule[place], sums[step - place])
        if gap != 0:
            better = [factor ^ field.times(gap, other) for factor, other in zip(rule, earlier)]
            if 2 * length <= step:
                earlier = [field.times(field.inverse(gap), factor) for factor in rule]
                length = step + 1 - length
            rule = better
    return rule[:length + 1]


def mended(field, found, sums, rule, places):
    """The words with those at the places set right, by Forney's way."""
    count = len(rule) - 1
    above = product(field, rule, sums)[:count]
    below = [rule[place] if place % 2 == 1 else 0 for place in range(1, count + 1)]
    right = list(found)
    for place in places:
        point = field.power(len(found) - 1 - place)
        under = field.inverse(value_at(field, below, point))
        right[place] = right[place] ^ field.times(value_at(field, above, point), under)
    return right


def mend(size, words):
    """The words as they must be, behind how many were wrong; or a refusal alone."""
    if size not in DATA_WORDS:
        return [NO_SUCH_SIZE]
    field = Field()
    count = MENDING_WORDS[size]
    sums = [value_at(field, words, field.power(exponent)) for exponent in range(1, count + 1)]
    rule = locator(field, sums)
    last = len(words) - 1
    places = [place for place in range(len(words)) if value_at(field, rule, field.power(last - place)) == 0]
    # Words that can be mended have a rule as long as the wrong ones are many, and it is 0 at each of these.
    if len(rule) - 1 > count // 2 or len(places) != len(rule) - 1:
        return [NOT_MENDED]
    return [len(places)] + mended(field, words, sums, rule, places)


def is_low_word(word):
    return 1 <= word <= LAST_LOW_WORD


def bytes_at(found, place):
    """The bytes of the word at a place, with the one behind a 235; none if it isn't read."""
    word = found[place]
    if is_low_word(word):
        return [word - 1]
    if FIRST_PAIR_WORD <= word <= LAST_PAIR_WORD:
        pair = word - FIRST_PAIR_WORD
        return [FIRST_DIGIT + pair // 10, FIRST_DIGIT + pair % 10]
    if word == HIGH_BYTE_WORD and place + 1 < len(found) and is_low_word(found[place + 1]):
        return [found[place + 1] + FIRST_HIGH_BYTE - 1]
    return []


def data_bytes(found):
    """The bytes of the data's words, or None if they aren't read."""
    data = []
    place = 0
    while place < len(found) and found[place] != END_WORD:
        piece = bytes_at(found, place)
        if piece == []:
            return None
        data.extend(piece)
        place = place + (2 if found[place] == HIGH_BYTE_WORD else 1)
    # Where there is no 129, no room is left to fill up, and this holds by itself.
    if filled(found[:place], len(found)) != found:
        return None
    return data


def read(size, rows):
    """The bytes of a picture, behind how many they are and how many words were wrong; or a refusal alone."""
    seen = look(size, rows)
    if seen[0] < 0:
        return seen
    right = mend(size, seen[1:])
    if right[0] < 0:
        return right
    data = data_bytes(right[1:DATA_WORDS[size] + 1])
    if data is None:
        return [NOT_READ]
    return [len(data), right[0]] + data
