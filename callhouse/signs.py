"""Signs as whole numbers: what stands on the wire is a row, a list of numbers from 0 to 255."""

LINE_END = (13, 10)
BLANK = 32
DASH = 45
POINT = 46
COLON = 58
SEMICOLON = 59
LESS = 60
EQUALS = 61
GREATER = 62
AT = 64

HEX_DIGITS = "0123456789abcdef"

SUM_START = 0xCBF29CE484222325
SUM_TIMES = 0x100000001B3
SUM_MODULO = 0x10000000000000000


def codes(text):
    return [ord(sign) for sign in text]


def is_sign(code):
    return 32 <= code <= 126


def is_digit(code):
    return 48 <= code <= 57


def is_great(code):
    return 65 <= code <= 90


def is_letter_or_digit(code):
    return is_digit(code) or is_great(code) or 97 <= code <= 122


def small(row):
    return [code + 32 if is_great(code) else code for code in row]


def begins(row, text):
    return row[:len(text)] == codes(text)


def is_digits(row, most):
    return 1 <= len(row) <= most and all([is_digit(code) for code in row])


def is_plain_number(row, most_digits):
    return is_digits(row, most_digits) and (len(row) == 1 or row[0] != 48)


def number_of(row):
    number = 0
    for code in row:
        number = number * 10 + code - 48
    return number


def is_word(row):
    return 1 <= len(row) <= 64 and all([is_letter_or_digit(code) or code in codes("._-+") for code in row])


def is_method(row):
    return 1 <= len(row) <= 16 and all([is_great(code) for code in row])


def place_of(row, code):
    for at in range(len(row)):
        if row[at] == code:
            return at
    return -1


def split_at(row, divider):
    parts = []
    part = []
    for code in row:
        if code == divider:
            parts.append(part)
            part = []
        else:
            part.append(code)
    parts.append(part)
    return parts


def without_end_blanks(row):
    end = len(row)
    while end > 0 and row[end - 1] == BLANK:
        end = end - 1
    return row[:end]


def without_blanks(row):
    start = 0
    while start < len(row) and row[start] == BLANK:
        start = start + 1
    return without_end_blanks(row[start:])


def lines_row(lines):
    row = []
    for line in lines:
        row.extend(line)
        row.extend(LINE_END)
    return row


def sum_of(row):
    total = SUM_START
    for code in row:
        total = (total ^ code) * SUM_TIMES % SUM_MODULO
    return total


def sum_row(row):
    total = sum_of(row)
    return [ord(HEX_DIGITS[(total >> shift) & 15]) for shift in range(60, -1, -4)]
