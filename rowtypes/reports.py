"""Reports: a line for each node of an expression, with its type and whether it stands in the way of one."""

from rowtypes.errors import BadText, TooLarge
from rowtypes.explaining import explanation, repairs
from rowtypes.expressions import FIRST_CHILD, child_numbers, is_name, nodes
from rowtypes.tokens import DIGITS, LONGEST_RUN
from rowtypes.typetext import parse_type, type_text
from rowtypes.typings import typed

NO_TYPE = "none"
LARGE_TYPE = "large"

MARKS = (".", "b", "e", "r")
SIGNS = ("+", "-", "<", "==")
TRUTHS = {"true": True, "false": False}

# How many children a head asks for.
ASKED = {
    "number": 0, "truth": 0, "name": 0, "fun": 1, "rec": 1, "call": 2, "let": 2,
    "if": 3, "op": 2, "empty": 0, "extend": 2, "select": 1, "drop": 1,
}


def report(expression):
    """The report of the expression."""
    parts = nodes(expression)
    depths = _depths(expression)
    marks = _marks(expression, len(parts))
    texts = _type_texts(expression, len(parts))
    lines = [f"{number} {depths[number]} {marks[number]} {_head(node)} : {texts[number]}\n"
             for number, node in enumerate(parts)]
    return "".join(lines)


def _depths(expression):
    """The list of the depths of all nodes."""
    child_rows = child_numbers(expression)
    depths = [0 for _ in child_rows]
    for number, row in enumerate(child_rows):
        for child in row:
            depths[child] = depths[number] + 1
    return depths


def _marks(expression, many):
    """The list of the marks of all nodes."""
    needed = explanation(expression)
    if needed is None:
        return ["." for _ in range(many)]
    mending = {number: True for repair in repairs(expression) for number in repair}
    return [_mark(number in needed, number in mending) for number in range(many)]


def _mark(explains, mends):
    if explains:
        return "b" if mends else "e"
    return "r" if mends else "."


def _type_texts(expression, many):
    """The list of what stands for the types of all nodes."""
    try:
        types = typed(expression, ())
    except TooLarge:
        return [LARGE_TYPE for _ in range(many)]
    if types is None:
        return [NO_TYPE for _ in range(many)]
    return [type_text(given) for given in types]


def _head(node):
    words = [_head_word(part) for part in node[:FIRST_CHILD[node[0]]]]
    return " ".join(words)


def _head_word(part):
    if part is True:
        return "true"
    if part is False:
        return "false"
    return str(part)


def read_report(text):
    """The expression, the text of the marks and the tuple of the types; raises BadText."""
    *lines, behind = text.split("\n")
    rows = []
    # The depths of the children that are still asked for, the next one last.
    wanted = [0]
    for place, line in enumerate(lines):
        row = _read_line(line, place, wanted)
        if row is None:
            raise BadText(place + 1, "unexpected line")
        rows.append(row)
        depth = wanted.pop()
        wanted.extend([depth + 1 for _ in range(ASKED[row[0][0]])])
    if behind != "":
        raise BadText(len(lines) + 1, "unexpected line")
    if wanted:
        raise BadText(len(lines) + 1, "unexpected end")
    marks = [row[1] for row in rows]
    return _joined([row[0] for row in rows]), "".join(marks), tuple([row[2] for row in rows])


def _joined(heads):
    """The expression whose nodes have these heads: nodes without their children."""
    # Behind a node in reverse order stand its children, the first one on top.
    built = []
    for head in reversed(heads):
        inner = [built.pop() for _ in range(ASKED[head[0]])]
        built.append(head + tuple(inner))
    return built.pop()


def _read_line(line, place, wanted):
    """The head, mark and type of a line, None if it is not one for this place and the next wanted depth."""
    if not wanted:
        return None
    ahead = f"{place} {wanted[-1]} "
    mark, _, rest = line[len(ahead):].partition(" ")
    # Heads have no colon, so the first one is that ahead of the type.
    words, _, written = rest.partition(" : ")
    if not line.startswith(ahead) or mark not in MARKS:
        return None
    head = _read_head(words.split(" "))
    given = _read_type(written)
    if head is None or given is None:
        return None
    return head, mark, given


def _read_head(words):
    """A node without its children, or None."""
    kind = words[0]
    if kind not in ASKED or len(words) != FIRST_CHILD[kind]:
        return None
    parts = [_read_part(kind, word) for word in words[1:]]
    return None if None in parts else (kind,) + tuple(parts)


def _read_part(kind, word):
    """What a node of this kind has besides its children, or None."""
    if kind == "number":
        return int(word) if _is_number(word) else None
    if kind == "truth":
        return TRUTHS.get(word)
    if kind == "op":
        return word if word in SIGNS else None
    return word if is_name(word) else None


def _is_number(word):
    if not 1 <= len(word) <= LONGEST_RUN or (word[0] == "0" and word != "0"):
        return False
    return all([digit in DIGITS for digit in word])


def _read_type(text):
    """The type in its written form, or the word that stands for one; None if it is neither."""
    if text in (NO_TYPE, LARGE_TYPE):
        return text
    try:
        given = parse_type(text)
    except (BadText, TooLarge):
        return None
    return given if type_text(given) == text else None
