"""Tables of prints: in which room a print is kept, and what of it, and how tables are grown, cut and joined."""

from markfilters.basics import is_integer, is_integer_within
from markfilters.errors import InvalidBits, InvalidNumber, InvalidRows, InvalidTable, Undefined

ROOMS = (1, 2, 4, 8)
MOST_ROOMS = 8
MOST_BITS = 5
MOST_NUMBERS = 24
PRINTS = 256


def check_numbers(rooms, bits):
    """Refuses what is no number of rooms, then what is no number of bits."""
    if not is_integer(rooms) or rooms not in ROOMS:
        raise InvalidNumber(rooms)
    if not is_integer_within(bits, 0, MOST_BITS):
        raise InvalidNumber(bits)


def is_row(bits, value):
    """Whether value, of any kind, is a tuple of numbers of so many bits, none less than the one ahead of it."""
    if not isinstance(value, tuple):
        return False
    least = 0
    for number in value:
        if not is_integer_within(number, least, (1 << bits) - 1):
            return False
        least = number
    return True


def are_rows(rooms, bits, value):
    """Whether value, of any kind, is a tuple of a row for each room, with at most 24 numbers in all."""
    if not isinstance(value, tuple) or len(value) != rooms:
        return False
    if not all([is_row(bits, row) for row in value]):
        return False
    return sum([len(row) for row in value]) <= MOST_NUMBERS


class Table:
    """So many rooms, and for each of them its row, numbers of so many bits that prints left there."""

    def __init__(self, rooms, bits, rows):
        check_numbers(rooms, bits)
        if not are_rows(rooms, bits, rows):
            raise InvalidRows(rows)
        self.rooms = rooms
        self.bits = bits
        # Attributes are plain tuples, also where the caller's are of a class below tuple.
        self.rows = tuple([tuple(row) for row in rows])

    def __eq__(self, other):
        return (isinstance(other, Table) and self.rooms == other.rooms and self.bits == other.bits
                and self.rows == other.rows)


def is_print(value):
    """Whether value, of any kind, is a print."""
    return is_integer_within(value, 0, PRINTS - 1)


def place(rooms, bits, number):
    """The room of a print, and the number that it leaves there."""
    return number % rooms, number // rooms % (1 << bits)


def places(table):
    """The list of all pairs (room, number) that stand in the table."""
    return [(room, number) for room, row in enumerate(table.rows) for number in row]


def table_of(rooms, bits, pairs):
    """The table in which just these pairs (room, number) stand."""
    rows = [tuple(sorted([number for room, number in pairs if room == at])) for at in range(rooms)]
    return Table(rooms, bits, tuple(rows))


def print_table(rooms, bits, prints):
    """The table of these prints."""
    check_numbers(rooms, bits)
    if not isinstance(prints, tuple) or len(prints) > MOST_NUMBERS or not all([is_print(one) for one in prints]):
        raise InvalidBits(prints)
    return table_of(rooms, bits, [place(rooms, bits, one) for one in prints])


def tells(table, number):
    """Whether what the print leaves stands in its room."""
    if not is_print(number):
        raise InvalidNumber(number)
    return place(table.rooms, table.bits, number) in places(table)


def grown(table):
    """The table with twice the rooms and one bit less that says yes to the same prints."""
    if table.bits == 0 or table.rooms == MOST_ROOMS:
        raise Undefined("bits")
    rooms = table.rooms
    pairs = [(room + rooms * (number % 2), number // 2) for room, number in places(table)]
    return table_of(rooms * 2, table.bits - 1, pairs)


def shrunk(table):
    """The table with half the rooms and one bit more that grown leads back."""
    if table.rooms == 1 or table.bits == MOST_BITS:
        raise Undefined("rooms")
    half = table.rooms // 2
    pairs = [(room % half, number * 2 + room // half) for room, number in places(table)]
    return table_of(half, table.bits + 1, pairs)


def cut(table):
    """The table with the highest bit of each number cut off."""
    if table.bits == 0:
        raise Undefined("bits")
    bits = table.bits - 1
    return table_of(table.rooms, bits, [(room, number % (1 << bits)) for room, number in places(table)])


def joined(one, other):
    """The table that has the numbers of both."""
    if not fits(one, other):
        raise InvalidTable(other)
    return table_of(one.rooms, one.bits, places(one) + places(other))


def fits(one, other):
    """Whether other, of any kind, is a table that can be joined with the table one."""
    if not isinstance(other, Table) or other.rooms != one.rooms or other.bits != one.bits:
        return False
    return len(places(one)) + len(places(other)) <= MOST_NUMBERS


def put(table, number):
    """The table that has what the print leaves once more."""
    if not is_print(number):
        raise InvalidNumber(number)
    if len(places(table)) == MOST_NUMBERS:
        raise Undefined("room")
    return table_of(table.rooms, table.bits, places(table) + [place(table.rooms, table.bits, number)])


def taken(table, number):
    """The table that has what the print leaves once less."""
    # tells refuses what is no print.
    if not tells(table, number):
        raise Undefined("no")
    pairs = places(table)
    pairs.remove(place(table.rooms, table.bits, number))
    return table_of(table.rooms, table.bits, pairs)
