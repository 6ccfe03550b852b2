"""Dots: the product of two tiles' rows, added to the numbers of a third."""

from quiltwork.singles import (
    PRODUCT_TO_SINGLE,
    half_in_range,
    half_value,
    rounded,
    single_in_range,
    single_of,
    single_value,
)

WORD_MODULUS = 4294967296
PAIRS_KIND = 4
KINDS_WITH_SIGNED_Y = (0, 1)
KINDS_WITH_SIGNED_Z = (0, 2)

# Of a dot of one row: so many numbers it has, so many bytes and at most so many rows z has.
ROW_NUMBERS = 16
ROW_LENGTH = 64
MOST_ROWS = 16


def words_of(row):
    return [
        row[q] + (row[q + 1] << 8) + (row[q + 2] << 16) + (row[q + 3] << 24)
        for q in range(0, len(row), 4)
    ]


def row_of(words):
    row = []
    for word in words:
        row.extend([word & 255, (word >> 8) & 255, (word >> 16) & 255, word >> 24])
    return row


def halves_of(row):
    return [row[q] + (row[q + 1] << 8) for q in range(0, len(row), 2)]


def with_sign(row):
    return [value if value < 128 else value - 256 for value in row]


def byte_column(z_rows, j):
    column = []
    for row in z_rows:
        column.extend(row[4 * j:4 * j + 4])
    return column


def inner_product(left, right):
    return sum([a * b for a, b in zip(left, right)])


def byte_dot(kind, x_words, y_rows, z_rows):
    if kind in KINDS_WITH_SIGNED_Y:
        y_rows = [with_sign(row) for row in y_rows]
    if kind in KINDS_WITH_SIGNED_Z:
        z_rows = [with_sign(row) for row in z_rows]
    columns = [byte_column(z_rows, j) for j in range(len(z_rows[0]) // 4)]
    answer = []
    for words, y_row in zip(x_words, y_rows):
        answer.append([
            (word + inner_product(y_row, column)) % WORD_MODULUS
            for word, column in zip(words, columns)
        ])
    return answer


def half_values(row):
    return [half_value(number) for number in halves_of(row)]


def every_second(values, first):
    return [values[q] for q in range(first, len(values), 2)]


def rounded_sum(left, right):
    total = 0
    for a, b in zip(left, right):
        total = rounded(total + a * b)
    return total


def add_pairs(word, y_parts, z_parts):
    lower = rounded_sum(y_parts[0], z_parts[0])
    upper = rounded_sum(y_parts[1], z_parts[1])
    inner = rounded(lower + upper) * PRODUCT_TO_SINGLE
    return single_of(rounded(single_value(word) + inner))


def pair_dot(x_words, y_rows, z_rows):
    z_values = [half_values(row) for row in z_rows]
    columns = []
    for j in range(len(z_rows[0]) // 4):
        columns.append(([row[2 * j] for row in z_values], [row[2 * j + 1] for row in z_values]))
    answer = []
    for words, y_row in zip(x_words, y_rows):
        y_values = half_values(y_row)
        y_parts = (every_second(y_values, 0), every_second(y_values, 1))
        answer.append([add_pairs(word, y_parts, column) for word, column in zip(words, columns)])
    return answer


def dot(kind, x_words, y_rows, z_rows):
    if kind == PAIRS_KIND:
        return pair_dot(x_words, y_rows, z_rows)
    return byte_dot(kind, x_words, y_rows, z_rows)


def row_in_range(row):
    return all([half_in_range(number) for number in halves_of(row)])


def words_in_range(words):
    return all([single_in_range(word) for word in words])


def pairs_in_range(x_words, y_rows, z_rows):
    if not all([row_in_range(row) for row in y_rows + z_rows]):
        return False
    return all([words_in_range(words) for words in x_words])


def dot_in_range(kind, x_words, y_rows, z_rows):
    # Only of pairs there are numbers that aren't in range.
    return kind != PAIRS_KIND or pairs_in_range(x_words, y_rows, z_rows)


def is_row_dot(kind, rows, c, a, b):
    if kind > PAIRS_KIND or not 1 <= rows <= MOST_ROWS:
        return False
    return len(c) == ROW_NUMBERS and len(a) == 4 * rows and len(b) == ROW_LENGTH * rows


# None is answered if a number isn't in range.
def dot_row(kind, words, y_row, z_rows):
    if not dot_in_range(kind, [words], [y_row], z_rows):
        return None
    return dot(kind, [words], [y_row], z_rows)[0]
