"""The bytes that texts and names are made of."""

NEWLINE = 10
SPACE = 32
LEFT = 40
RIGHT = 41
DOT = 46
BACKSLASH = 92
UNDERSCORE = 95
SMALL_X = 120

MOST_NAME_BYTES = 31


def is_blank(byte):
    return byte == SPACE or byte == NEWLINE


def is_letter(byte):
    return 65 <= byte <= 90 or 97 <= byte <= 122


def is_digit(byte):
    return 48 <= byte <= 57


def is_name_byte(byte):
    return is_letter(byte) or is_digit(byte) or byte == UNDERSCORE


def name_end(text, start):
    end = start
    while end < len(text) and is_name_byte(text[end]):
        end += 1
    return end


def is_name(row):
    if not 1 <= len(row) <= MOST_NAME_BYTES:
        return False
    return is_letter(row[0]) and name_end(row, 0) == len(row)
