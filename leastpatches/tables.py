"""Tables, read from how they stand as numbers."""

MOST_COLUMNS = 5
MOST_ROWS = 12
MOST_BYTES = 8
MOST_IN_CELL = 1000000

EMPTY_CELL = 0
NUMBER_CELL = 1
WORD_CELL = 2

FIRST_OF_WORDS = 32
LAST_OF_WORDS = 126
FIRST_DIGIT = 48
LAST_DIGIT = 57
FIRST_LETTER = 97
LAST_LETTER = 122


class NotATable(Exception):
    pass


class Table:
    # Names and cells are kept as tuples of the numbers they stand as: alike ones are equal, and are told as they are.
    def __init__(self, names, rows):
        self.names = names
        self.rows = rows


class Reader:
    def __init__(self, numbers):
        self.numbers = numbers
        self.position = 0

    def take(self, lowest, highest):
        if self.at_end():
            raise NotATable()
        number = self.numbers[self.position]
        if number < lowest or number > highest:
            raise NotATable()
        self.position += 1
        return number

    def at_end(self):
        return self.position == len(self.numbers)


def is_letter(byte):
    return FIRST_LETTER <= byte <= LAST_LETTER


def is_digit(byte):
    return FIRST_DIGIT <= byte <= LAST_DIGIT


def read_bytes(reader, lowest, highest):
    size = reader.take(1, MOST_BYTES)
    return [reader.take(lowest, highest) for place in range(size)]


def read_name(reader):
    name = read_bytes(reader, FIRST_DIGIT, LAST_LETTER)
    plain = all([is_letter(byte) or is_digit(byte) for byte in name])
    if not plain or not is_letter(name[0]):
        raise NotATable()
    return tuple([len(name)] + name)


def read_cell(reader):
    kind = reader.take(EMPTY_CELL, WORD_CELL)
    if kind == EMPTY_CELL:
        return (EMPTY_CELL,)
    if kind == NUMBER_CELL:
        return (NUMBER_CELL, reader.take(-MOST_IN_CELL, MOST_IN_CELL))
    word = read_bytes(reader, FIRST_OF_WORDS, LAST_OF_WORDS)
    return tuple([WORD_CELL, len(word)] + word)


def read_row(reader, width):
    return [read_cell(reader) for column in range(width)]


def read_table(numbers):
    reader = Reader(numbers)
    width = reader.take(1, MOST_COLUMNS)
    names = [read_name(reader) for column in range(width)]
    if len(set(names)) < width:
        raise NotATable()
    height = reader.take(0, MOST_ROWS)
    rows = [read_row(reader, width) for row in range(height)]
    if not reader.at_end():
        raise NotATable()
    return Table(names, rows)


def is_empty(cell):
    return cell[0] == EMPTY_CELL
