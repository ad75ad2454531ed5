"""The calls of the program; each takes whole numbers and lists of them, and answers one list."""

MOST_BYTES = 348
MOST_WORDS = 174

TOO_MANY_BYTES = -1
TOO_MANY_WORDS = -2

FIRST_DIGIT = 48
LAST_DIGIT = 57
FIRST_HIGH_BYTE = 128

FIRST_PAIR_WORD = 130
HIGH_BYTE_WORD = 235


def is_digit(byte):
    return FIRST_DIGIT <= byte <= LAST_DIGIT


def is_pair_at(data, place):
    if place + 1 >= len(data):
        return False
    return is_digit(data[place]) and is_digit(data[place + 1])


def pair_word(tens, ones):
    return FIRST_PAIR_WORD + (tens - FIRST_DIGIT) * 10 + (ones - FIRST_DIGIT)


def byte_words(byte):
    if byte < FIRST_HIGH_BYTE:
        return [byte + 1]
    return [HIGH_BYTE_WORD, byte - (FIRST_HIGH_BYTE - 1)]


def data_words(data):
    found = []
    place = 0
    while place < len(data):
        if is_pair_at(data, place):
            found.append(pair_word(data[place], data[place + 1]))
            place = place + 2
        else:
            found.extend(byte_words(data[place]))
            place = place + 1
    return found


def words(most, data):
    """The words of the bytes, behind how many they are; or a refusal alone."""
    # Bytes are counted first: where both refusals would apply, the document tells this one ahead of the other.
    if len(data) > MOST_BYTES:
        return [TOO_MANY_BYTES]
    found = data_words(data)
    if len(found) > most or len(found) > MOST_WORDS:
        return [TOO_MANY_WORDS]
    return [len(found)] + found
