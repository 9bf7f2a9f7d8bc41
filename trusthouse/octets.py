"""Whole numbers as rows of bytes, the greatest byte first."""


def number_of(row):
    number = 0
    for octet in row:
        number = (number << 8) | octet
    return number


def octets_of(number, size):
    row = []
    for place in range(size):
        row.append((number >> (8 * (size - 1 - place))) & 255)
    return row
