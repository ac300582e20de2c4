"""Rules: each goes along a row, mark by mark, and tells where the row breaks it."""

from grooveway.errors import BadMark, BadMarks, BadRule

MARK_SIGNS = "abcdefghijklmnopqrstuvwxyz0123456789"


def marks_stand(marks):
    if len(marks) < 2 or len(marks) > 4:
        return False
    return all([sign in MARK_SIGNS and marks.count(sign) == 1 for sign in marks])


def is_mark(marks, text):
    # The length is asked too: `in` alone finds the empty text and pieces of the marks.
    return len(text) == 1 and text in marks


def is_whole(number, low, high):
    # True and False would pass for 1 and 0.
    if isinstance(number, bool) or not isinstance(number, int):
        return False
    return low <= number <= high


def demand(holds, words):
    if not holds:
        raise BadRule(words)


class Rule:
    def __init__(self, marks):
        if not marks_stand(marks):
            raise BadMarks(f"marks are 2 to 4 unlike small letters or figures, not {marks!r}")
        self.marks = marks

    def begin(self):
        return 0

    def step(self, state, mark):
        if not is_mark(self.marks, mark):
            raise BadMark(f"{mark!r} is no mark")
        return self.behind(state, mark)

    # What each kind of rule tells in its own way; the mark is one of the marks here.
    def behind(self, state, mark):
        return 0

    def broken_at(self, row):
        state = self.begin()
        for place, mark in enumerate(row):
            state = self.step(state, mark)
            if state is None:
                return place
        return None

    def keeps(self, row):
        return self.broken_at(row) is None


class Gap(Rule):
    def __init__(self, marks, mark, least, most=None):
        Rule.__init__(self, marks)
        demand(is_mark(marks, mark), "a Gap's mark is one of the marks")
        demand(is_whole(least, 0, 8), "a Gap's least is from 0 to 8")
        demand(most is None or is_whole(most, least, 8), "a Gap's most is None or from least to 8")
        self.mark = mark
        self.least = least
        self.most = most

    def begin(self):
        return self.least

    def behind(self, state, mark):
        if mark == self.mark:
            return 0 if state >= self.least else None
        if self.most is None:
            # Beyond least no count matters, and the states stay few.
            return min(state + 1, self.least)
        return state + 1 if state < self.most else None


class Never(Rule):
    def __init__(self, marks, word):
        Rule.__init__(self, marks)
        demand(1 <= len(word) <= 6, "a Never's word has 1 to 6 signs")
        demand(all([is_mark(marks, sign) for sign in word]), "a Never's word is of marks")
        self.word = word

    def behind(self, state, mark):
        end = self.word[:state] + mark
        if end == self.word:
            return None
        length = len(end)
        while not end.endswith(self.word[:length]):
            length = length - 1
        return length


class Sum(Rule):
    def __init__(self, marks, worths, low, high):
        Rule.__init__(self, marks)
        demand(len(worths) == len(marks), "a Sum has as many worths as there are marks")
        demand(all([is_whole(worth, -3, 3) for worth in worths]), "a Sum's worths are from -3 to 3")
        demand(is_whole(low, -8, 0), "a Sum's low is from -8 to 0")
        demand(is_whole(high, 0, 8), "a Sum's high is from 0 to 8")
        self.worths = tuple(worths)
        self.low = low
        self.high = high

    def behind(self, state, mark):
        total = state + self.worths[self.marks.index(mark)]
        return total if self.low <= total <= self.high else None


class Turn(Rule):
    def __init__(self, marks, mark, every, at):
        Rule.__init__(self, marks)
        demand(is_mark(marks, mark), "a Turn's mark is one of the marks")
        demand(is_whole(every, 1, 6), "a Turn's every is from 1 to 6")
        demand(is_whole(at, 0, every - 1), "a Turn's at is from 0 to one below every")
        self.mark = mark
        self.every = every
        self.at = at

    def behind(self, state, mark):
        if mark == self.mark and state != self.at:
            return None
        return (state + 1) % self.every


class Alike(Rule):
    def __init__(self, marks, most):
        Rule.__init__(self, marks)
        demand(is_whole(most, 1, 6), "an Alike's most is from 1 to 6")
        self.most = most

    def begin(self):
        return (0, 0)

    def behind(self, state, mark):
        number = self.marks.index(mark)
        many = state[1] + 1 if number == state[0] else 1
        return (number, many) if many <= self.most else None


class All(Rule):
    def __init__(self, marks, rules):
        Rule.__init__(self, marks)
        demand(len(rules) <= 6, "an All has at most 6 rules")
        demand(not any([isinstance(rule, All) for rule in rules]), "no rule in an All is an All")
        demand(all([rule.marks == marks for rule in rules]), "the rules in an All are of its marks")
        self.rules = tuple(rules)

    def begin(self):
        return tuple([rule.begin() for rule in self.rules])

    def behind(self, state, mark):
        states = []
        for rule, own in zip(self.rules, state):
            after = rule.step(own, mark)
            if after is None:
                return None
            states.append(after)
        return tuple(states)

    def rules_told(self):
        return list(self.rules)
