"""Texts as lists of bytes: made, parted and put together."""

BLANK = 32


def bytes_of(written):
    return [ord(letter) for letter in written]


def parted(text, mark):
    parts = [[]]
    for byte in text:
        if byte == mark:
            parts.append([])
        else:
            parts[-1].append(byte)
    return parts


def put_together(parts, between):
    whole = []
    for place, part in enumerate(parts):
        if place > 0:
            whole.extend(between)
        whole.extend(part)
    return whole


def without_outer_blanks(text):
    start = 0
    end = len(text)
    while start < end and text[start] == BLANK:
        start += 1
    while start < end and text[end - 1] == BLANK:
        end -= 1
    return text[start:end]


def is_small_letter(byte):
    return 97 <= byte <= 122


def is_digit(byte):
    return 48 <= byte <= 57
