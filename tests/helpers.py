"""What several tests use: faults of texts, and grammars that are followed by the book."""

from rowtypes.errors import BadText


def fault(read, text):
    """The pair (token, reason) with which the text is refused, None if it is read."""
    try:
        read(text)
    except BadText as why:
        return why.token, why.reason
    return None


class Grammar:
    """An Earley recognizer. A rule is a list of rows of symbols; what is no rule is a token."""

    def __init__(self, rules, start):
        self.rules = rules
        self.start = start
        self.empty = self.empty_rules()

    def empty_rules(self):
        found = set()
        while True:
            more = {rule for rule, rows in self.rules.items() for row in rows if all(part in found for part in row)}
            if more == found:
                return found
            found = more

    def closed(self, states, chart):
        waiting = list(states)
        states = set(waiting)
        while waiting:
            rule, row, at, start = waiting.pop()
            new = []
            if at == len(row):
                origin = states if start == len(chart) else chart[start]
                for item in list(origin):
                    if item[2] < len(item[1]) and item[1][item[2]] == rule:
                        new.append((item[0], item[1], item[2] + 1, item[3]))
            elif row[at] in self.rules:
                new = [(row[at], other, 0, len(chart)) for other in self.rules[row[at]]]
                if row[at] in self.empty:
                    new.append((rule, row, at + 1, start))
            for item in new:
                if item not in states:
                    states.add(item)
                    waiting.append(item)
        return states

    def verdict(self, tokens):
        """None if the tokens are a sentence, or else the pair (token, reason) of t3."""
        chart = [self.closed([(self.start, row, 0, 0) for row in self.rules[self.start]], [])]
        for place, token in enumerate(tokens):
            moved = [(rule, row, at + 1, start) for rule, row, at, start in chart[-1]
                     if at < len(row) and row[at] == token]
            if not moved:
                return place + 1, "unexpected token"
            chart.append(self.closed(moved, chart))
        if any(rule == self.start and at == len(row) and start == 0 for rule, row, at, start in chart[-1]):
            return None
        return len(tokens) + 1, "unexpected end"


def rules(text):
    """The rules of a grammar, a line each: rule: a row | a row | ..; @ stands for the sign |."""
    found = {}
    for line in text.strip().splitlines():
        rule, rows = line.split("::")
        found[rule.strip()] = [tuple(part.replace("@", "|") for part in row.split()) for row in rows.split("|")]
    return found


def changed(tokens, alphabet):
    """All rows of tokens that come from this one by one token less, another one or one more."""
    for at in range(len(tokens)):
        yield tokens[:at] + tokens[at + 1:]
        yield tokens[:at]
        for token in alphabet:
            yield tokens[:at] + [token] + tokens[at + 1:]
    for at in range(len(tokens) + 1):
        for token in alphabet:
            yield tokens[:at] + [token] + tokens[at:]
