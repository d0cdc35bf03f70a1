"""Lamps as the matrix has them: eight columns, each a byte with a bit for each of its eight places."""

COLUMNS = 8
FULL = 255
# By the place within a column.
BITS = (1, 2, 4, 8, 16, 32, 64, 128)


def no_lamps():
    return [0] * COLUMNS


def add_lamp(columns, place):
    columns[place // len(BITS)] |= BITS[place % len(BITS)]


def remove_lamp(columns, place):
    columns[place // len(BITS)] &= FULL - BITS[place % len(BITS)]


def columns_of(places):
    columns = no_lamps()
    for place in places:
        add_lamp(columns, place)
    return columns


def places_of(columns):
    places = []
    for column, byte in enumerate(columns):
        for row, bit in enumerate(BITS):
            if byte & bit != 0:
                places.append(column * len(BITS) + row)
    return places
