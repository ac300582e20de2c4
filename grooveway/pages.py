"""Pages: marks and rules, read from a text and written as one."""

from grooveway.errors import BadRow, BadRule
from grooveway.rules import All, Alike, Gap, Never, Sum, Turn

FIGURES = "0123456789"


def words_in(row):
    said = row.partition("#")[0]
    return [word for word in said.split(" ") if word != ""]


def rows_of(page):
    rows = []
    for number, row in enumerate(page.split("\n"), start=1):
        words = words_in(row)
        if len(words) > 0:
            rows.append((number, words))
    return rows


# The number that a word of at most so many figures writes, or None.
def whole_in(word, figures):
    if len(word) < 1 or len(word) > figures:
        return None
    # `int` alone would also read blanks, a sign ahead and noughts ahead.
    if not all([sign in FIGURES for sign in word]):
        return None
    if len(word) > 1 and word[0] == "0":
        return None
    return int(word)


def number_in(word):
    return whole_in(word, 2)


def signed_in(word):
    if not word.startswith("-"):
        return number_in(word)
    number = number_in(word[1:])
    return None if number is None or number == 0 else -number


# A row's form is read before anything is made of it: a bad row anywhere goes ahead of bad marks
# and bad rules. So each of these tells what makes the rule once the marks are known, or None.


def gap_maker(words):
    if len(words) != 4:
        return None
    least = number_in(words[2])
    most = number_in(words[3])
    if least is None or (most is None and words[3] != "any"):
        return None
    return lambda marks: Gap(marks, words[1], least, most)


def never_maker(words):
    if len(words) != 2:
        return None
    return lambda marks: Never(marks, words[1])


def sum_maker(words):
    if len(words) < 3:
        return None
    numbers = [signed_in(word) for word in words[1:]]
    if None in numbers:
        return None
    return lambda marks: Sum(marks, tuple(numbers[2:]), numbers[0], numbers[1])


def turn_maker(words):
    if len(words) != 4:
        return None
    every = number_in(words[2])
    at = number_in(words[3])
    if every is None or at is None:
        return None
    return lambda marks: Turn(marks, words[1], every, at)


def alike_maker(words):
    if len(words) != 2:
        return None
    most = number_in(words[1])
    if most is None:
        return None
    return lambda marks: Alike(marks, most)


MAKERS = {
    "gap": gap_maker,
    "never": never_maker,
    "sum": sum_maker,
    "turn": turn_maker,
    "alike": alike_maker,
}


def rule_maker(words):
    if words[0] not in MAKERS:
        return None
    maker_of = MAKERS[words[0]]
    return maker_of(words)


def marks_told(rows):
    if len(rows) == 0:
        raise BadRow(1)
    words = rows[0][1]
    if words[0] != "marks" or len(words) != 2:
        raise BadRow(rows[0][0])
    return words[1]


def read_rules(page):
    rows = rows_of(page)
    marks = marks_told(rows)
    makers = []
    for number, words in rows[1:]:
        maker = rule_maker(words)
        if maker is None:
            raise BadRow(number)
        makers.append(maker)
    return All(marks, [maker(marks) for maker in makers])


def rule_words(rule):
    if isinstance(rule, Gap):
        most = "any" if rule.most is None else str(rule.most)
        return ["gap", rule.mark, str(rule.least), most]
    if isinstance(rule, Never):
        return ["never", rule.word]
    if isinstance(rule, Sum):
        return ["sum", str(rule.low), str(rule.high)] + [str(worth) for worth in rule.worths]
    if isinstance(rule, Turn):
        return ["turn", rule.mark, str(rule.every), str(rule.at)]
    if isinstance(rule, Alike):
        return ["alike", str(rule.most)]
    raise BadRule("plain rules and an All have no row")


def rule_row(rule):
    return " ".join(rule_words(rule))


def rules_page(rule):
    rows = ["marks " + rule.marks] + [rule_row(each) for each in rule.rules_told()]
    return "\n".join(rows)
