"""Call numbers: read from bytes into a tuple that compares as the order of call numbers asks, and written.

The tuple: the class's letters, its number, the digits behind its full stop, the parts (each its letter
and its digits), the year, the copy. Letters and digits are bytes, letters big; a year or a copy that
isn't told is 0, digits that aren't told are an empty tuple.
"""

BLANK = 32
FULL_STOP = 46
DIGIT_0 = 48
DIGIT_9 = 57
BIG_A = 65
BIG_C = 67
BIG_Z = 90
SMALL_A = 97
SMALL_C = 99
SMALL_Z = 122

MOST_BYTES = 60
MOST_LETTERS = 3
MOST_CLASS_DIGITS = 4
MOST_PARTS = 3
MOST_PART_DIGITS = 5
YEAR_DIGITS = 4
COPY_DIGITS = 2
LEAST_COPY = 2

# Where each piece stands in the tuple.
LETTERS = 0
NUMBER = 1
FRACTION = 2
PARTS = 3
YEAR = 4
COPY = 5


def is_digit(byte):
    return byte >= DIGIT_0 and byte <= DIGIT_9


def as_big(byte):
    if byte >= SMALL_A and byte <= SMALL_Z:
        return byte - SMALL_A + BIG_A
    return byte


def is_letter(byte):
    big = as_big(byte)
    return big >= BIG_A and big <= BIG_Z


def are_digits(row, most):
    return len(row) >= 1 and len(row) <= most and all([is_digit(byte) for byte in row])


def is_number(row, most):
    return are_digits(row, most) and row[0] != DIGIT_0


def is_fraction(row, most):
    return are_digits(row, most) and row[-1] != DIGIT_0


def number_of(digits):
    number = 0
    for digit in digits:
        number = number * 10 + digit - DIGIT_0
    return number


def pieces_between(row, mark):
    pieces = []
    piece = []
    for byte in row:
        if byte != mark:
            piece.append(byte)
        elif len(piece) > 0:
            pieces.append(piece)
            piece = []
    if len(piece) > 0:
        pieces.append(piece)
    return pieces


def count_letters(word):
    end = 0
    while end < len(word) and is_letter(word[end]):
        end += 1
    return end


def read_class(word):
    letters = count_letters(word)
    if letters < 1 or letters > MOST_LETTERS:
        return None
    stop = letters
    while stop < len(word) and word[stop] != FULL_STOP:
        stop += 1
    number = word[letters:stop]
    if not is_number(number, MOST_CLASS_DIGITS):
        return None
    fraction = word[stop + 1:]
    # A full stop with nothing behind it is no class, so it's the full stop that is asked for, not the digits.
    if stop < len(word) and not is_fraction(fraction, MOST_CLASS_DIGITS):
        return None
    return (tuple([as_big(byte) for byte in word[:letters]]), number_of(number), tuple(fraction))


def read_part(word):
    letter = 1 if word[0] == FULL_STOP else 0
    digits = word[letter + 1:]
    if not is_fraction(digits, MOST_PART_DIGITS) or not is_letter(word[letter]):
        return None
    return (as_big(word[letter]), tuple(digits))


def read_year(word):
    if len(word) != YEAR_DIGITS or not is_number(word, YEAR_DIGITS):
        return None
    return number_of(word)


def read_copy(word):
    digits = word[2:]
    if not is_number(digits, COPY_DIGITS) or number_of(digits) < LEAST_COPY:
        return None
    if as_big(word[0]) != BIG_C or word[1] != FULL_STOP:
        return None
    return number_of(digits)


def read_parts(words):
    parts = []
    for word in words[:MOST_PARTS]:
        part = read_part(word)
        if part is None:
            break
        parts.append(part)
    return tuple(parts)


# No word is at once a part, a year and a copy, so each is taken where it stands and never given back.
def read_call_number(code):
    if len(code) > MOST_BYTES:
        return None
    words = pieces_between(code, BLANK)
    head = read_class(words[0]) if len(words) > 0 else None
    if head is None:
        return None
    parts = read_parts(words[1:])
    rest = words[1 + len(parts):]
    year = read_year(rest[0]) if len(rest) > 0 else None
    if year is not None:
        rest = rest[1:]
    copy = read_copy(rest[0]) if len(rest) > 0 else None
    if copy is not None:
        rest = rest[1:]
    if len(rest) > 0:
        return None
    return head + (parts, 0 if year is None else year, 0 if copy is None else copy)


def digits_of(number):
    return [ord(digit) for digit in str(number)]


def write_class(number):
    written = list(number[LETTERS]) + digits_of(number[NUMBER])
    if len(number[FRACTION]) > 0:
        written.append(FULL_STOP)
        written.extend(number[FRACTION])
    return written


def write_call_number(number):
    written = write_class(number)
    for part in number[PARTS]:
        written.extend([BLANK, FULL_STOP, part[0]])
        written.extend(part[1])
    if number[YEAR] > 0:
        written.append(BLANK)
        written.extend(digits_of(number[YEAR]))
    if number[COPY] > 0:
        written.extend([BLANK, SMALL_C, FULL_STOP])
        written.extend(digits_of(number[COPY]))
    return written
