"""The shapes of expressions: their children, nodes and free names."""

from rowtypes.tokens import LETTERS, LONGEST_RUN

WORDS = ("fun", "rec", "let", "in", "if", "then", "else", "true", "false")

# Where the children begin in the tuple of an expression; they go on to its end.
FIRST_CHILD = {
    "number": 2, "truth": 2, "name": 2, "fun": 2, "rec": 3, "call": 1, "let": 2,
    "if": 1, "op": 2, "empty": 1, "extend": 2, "select": 2, "drop": 2,
}


def is_name(text):
    """Whether the text is a name: 1 to 6 letters a to z, and no word of the language."""
    if text in WORDS or not 1 <= len(text) <= LONGEST_RUN:
        return False
    return all([letter in LETTERS for letter in text])


def children(expression):
    """The tuple of the children."""
    return expression[FIRST_CHILD[expression[0]]:]


def with_children(node, parts):
    """The node with other expressions in the place of its children."""
    return node[:FIRST_CHILD[node[0]]] + tuple(parts)


def nodes(expression):
    """The list of all nodes, a node ahead of its children."""
    # Kept off recursion: what runs can be far deeper than what is read.
    found = []
    waiting = [expression]
    while waiting:
        node = waiting.pop()
        found.append(node)
        waiting.extend(children(node)[::-1])
    return found


def child_numbers(expression):
    """The list of the tuples of the numbers of the children, one for each node."""
    found = []
    # Behind a node in reverse order stand the numbers of its children, the first one on top.
    waiting = []
    parts = nodes(expression)
    for number in reversed(range(len(parts))):
        found.append(tuple([waiting.pop() for _ in children(parts[number])]))
        waiting.append(number)
    return found[::-1]


def brought_names(node):
    """The tuple of the tuples of names that the node brings in reach of each child."""
    kind = node[0]
    if kind == "fun":
        return ((node[1],),)
    if kind == "rec":
        return ((node[1], node[2]),)
    if kind == "let":
        return ((), (node[1],))
    return tuple([() for _ in children(node)])


def free_names(expression):
    """The list of the names that nothing within the expression brings, each once."""
    found = {}
    waiting = [(expression, ())]
    while waiting:
        node, reach = waiting.pop()
        if node[0] == "name" and node[1] not in reach:
            found[node[1]] = True
        inner = [(child, reach + names) for child, names in zip(children(node), brought_names(node))]
        waiting.extend(inner[::-1])
    return list(found)


def all_brought(expression):
    """The list of the names that nodes of the expression bring, in the order of the nodes."""
    return [name for node in nodes(expression) for names in brought_names(node) for name in names]
