"""Pages answered for a wish, and answers looked at."""

from grooveway.blocks import block_table
from grooveway.errors import BadTable
from grooveway.judge import judged
from grooveway.least import least
from grooveway.pages import read_rules, whole_in
from grooveway.parts import closed_part, lead_to
from grooveway.rooms import living, rooms_of
from grooveway.split import finished
from grooveway.table import table_of
from grooveway.tables import read_table, table_text, words_behind
from grooveway.web import web_of
from grooveway.weights import beginnings, press, shrunk, verdict


def rooms_told(page):
    return least(living(rooms_of(read_rules(page))))


def table_made(rooms, n, q, weights):
    part = closed_part(block_table(rooms, q), weights)
    lead = lead_to(rooms, part)
    webs = finished(web_of(rooms, q, weights, part), n)
    return table_of(webs[-1], n, lead[0], lead[1])


def numbers_row(name, numbers):
    return " ".join([name] + [str(number) for number in numbers])


def answered(page, n, q, most=16):
    rooms = rooms_told(page)
    told = verdict(block_table(rooms, q), n, most)
    if told[0] == "press":
        return numbers_row("press", told[1])
    if told[0] == "close":
        return "\n".join(["close"] + [numbers_row("round", weights) for weights in told[1]])
    return table_text(table_made(rooms, n, q, told[1]))


def numbers_in(row, name, many):
    words = words_behind(row, name, many)
    if words is None:
        return None
    numbers = [whole_in(word, 400) for word in words]
    return None if None in numbers else numbers


# Only what shows that no weights bear the wish is asked for: for each column what is left is above nought.
def press_stands(table, n, text):
    numbers = numbers_in(text, "press", len(table))
    if numbers is None or 0 in numbers:
        return False
    for column in range(len(table)):
        total = sum([row[column] * number for row, number in zip(table, numbers)])
        if total >= n * numbers[column]:
            return False
    return True


def rounds_stand(table, n, told, most):
    if told[0] != [beginnings(most)[-1]] * len(table) or max(told[-1]) > 0:
        return False
    return all([after == shrunk(table, n, weights) for weights, after in zip(told, told[1:])])


def close_stands(table, n, text, most):
    rows = text.split("\n")
    told = [numbers_in(row, "round", len(table)) for row in rows[1:]]
    if rows[0] != "close" or len(told) == 0 or None in told:
        return False
    return rounds_stand(table, n, told, most) and press(table, n) is None


def table_faults(rooms, n, q, text):
    table = read_table(text)
    if table.signs() != n or table.block_length() != q:
        return [("wish",)]
    return judged(rooms, table)


def first_word(text):
    return text.split("\n")[0].split(" ")[0]


def looked(page, n, q, text, most=16):
    rooms = rooms_told(page)
    word = first_word(text)
    if word == "table":
        return table_faults(rooms, n, q, text)
    table = block_table(rooms, q)
    if word == "press":
        return [] if press_stands(table, n, text) else [("press",)]
    if word == "close":
        return [] if close_stands(table, n, text, most) else [("close",)]
    raise BadTable(1)
