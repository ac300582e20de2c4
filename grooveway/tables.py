"""Tables written as texts, and read from them."""

from grooveway.errors import BadTable
from grooveway.pages import whole_in
from grooveway.rules import MARK_SIGNS
from grooveway.table import Table


def place_rows(home, ways):
    return [f"place {home}"] + [f"way {block} {place}" for block, place in ways]


def table_text(table):
    numbers = [table.signs(), table.block_length(), table.ahead, len(table.homes)]
    rows = ["table " + " ".join([str(number) for number in numbers])]
    rows.append("lead" if table.lead == "" else "lead " + table.lead)
    rows.append("first " + str(table.first))
    for home, ways in zip(table.homes, table.ways):
        rows.extend(place_rows(home, ways))
    return "\n".join(rows)


# The words behind a row's name, or None where it hasn't that name or just so many of them. Two blanks side by
# side have an empty word between them, which is never one that may stand.
def words_behind(row, name, many):
    words = row.split(" ")
    if words[0] != name or len(words) != many + 1:
        return None
    return words[1:]


def is_row(word):
    return len(word) > 0 and all([sign in MARK_SIGNS for sign in word])


def place_in(word, places):
    number = whole_in(word, 6)
    return number if number is not None and number < places else None


# Each of these tells what a row of the text says, or None where the row may not stand.


def head_in(row):
    words = words_behind(row, "table", 4)
    if words is None:
        return None
    numbers = [whole_in(word, 6) for word in words]
    # Only the number ahead may be nought.
    if None in numbers or 0 in (numbers[0], numbers[1], numbers[3]):
        return None
    return numbers


def lead_in(row):
    if row == "lead":
        return ""
    words = words_behind(row, "lead", 1)
    return words[0] if words is not None and is_row(words[0]) else None


def first_in(row, places):
    words = words_behind(row, "first", 1)
    return None if words is None else place_in(words[0], places)


def home_in(row):
    words = words_behind(row, "place", 1)
    return None if words is None else whole_in(words[0], 6)


def way_in(row, length, places):
    words = words_behind(row, "way", 2)
    if words is None or len(words[0]) != length or not is_row(words[0]):
        return None
    place = place_in(words[1], places)
    return None if place is None else (words[0], place)


# A row that isn't there counts as an empty one, which may stand nowhere: so where a text ends too early the
# number told is that of the row behind its last.
def row_numbered(rows, number):
    return rows[number - 1] if number <= len(rows) else ""


def stands(number, said):
    if said is None:
        raise BadTable(number)
    return said


def ways_in(rows, number, head):
    ways = []
    for place in range(number, number + head[0]):
        ways.append(stands(place, way_in(row_numbered(rows, place), head[1], head[3])))
    return ways


def read_table(text):
    rows = text.split("\n")
    head = stands(1, head_in(rows[0]))
    lead = stands(2, lead_in(row_numbered(rows, 2)))
    first = stands(3, first_in(row_numbered(rows, 3), head[3]))
    homes = []
    ways = []
    number = 4
    for place in range(head[3]):
        homes.append(stands(number, home_in(row_numbered(rows, number))))
        ways.append(ways_in(rows, number + 1, head))
        number = number + 1 + head[0]
    if len(rows) >= number:
        raise BadTable(number)
    return Table(lead, first, head[2], homes, ways)
