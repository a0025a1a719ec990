"""The rows that are made of a program's trees."""

from callsmith.trees import checked, scoped, within


class Code:
    """The rows of a program, and the starts of its functions by their names."""

    def __init__(self, rows, starts):
        self.rows = rows
        self.starts = starts


def smithed(program):
    """The Code of a program."""
    checked(program)
    # The starts come first, as a call may go to a function that stands later.
    starts = starts_of(program)
    rows = []
    for _, takes, body in program:
        add_rows(rows, body, takes, starts)
        rows.append(("back",))
    return Code(rows, starts)


def starts_of(program):
    """The starts of the functions, by their names in their order."""
    starts = {}
    first = 0
    for name, takes, body in program:
        count = len(takes)
        starts[name] = (first, count, count + most_lets(body), height(body))
        first += length(body) + 1
    return starts


def length(tree):
    """How many rows a tree has."""
    own = 2 if tree[0] == "choose" else 1
    return own + sum([length(part) for part in within(tree)])


def most_lets(tree):
    """The most lets in a tree that stand within each other by their second trees."""
    if tree[0] == "let":
        return max(most_lets(tree[2]), 1 + most_lets(tree[3]))
    return max([most_lets(part) for part in within(tree)], default=0)


def height(tree):
    """The most numbers that the rows of a tree have on the stack."""
    parts = within(tree)
    if tree[0] == "choose" or tree[0] == "let":
        # The number of the first tree is taken before the next tree is begun.
        return max([height(part) for part in parts])
    return max([under + height(part) for under, part in enumerate(parts)], default=1)


def slot_of(name, known):
    """The slot of a name: the last place where it stands among those known."""
    return len(known) - 1 - known[::-1].index(name)


def add_rows(rows, tree, known, starts):
    """Put the rows of a tree behind those there are; the names have slots as in `known`."""
    word = tree[0]
    if word == "num":
        rows.append(("push", tree[1]))
    elif word == "name":
        rows.append(("load", slot_of(tree[1], known)))
    elif word == "choose":
        add_choose(rows, tree, known, starts)
    elif word == "let":
        add_let(rows, tree, known, starts)
    elif word == "call":
        add_parts(rows, tree, known, starts)
        first, count, room, _ = starts[tree[1]]
        rows.append(("call", first, count, room))
    else:
        add_parts(rows, tree, known, starts)
        rows.append(("do", word))


def add_parts(rows, tree, known, starts):
    """The rows of all trees right within a tree, from the left."""
    for part in within(tree):
        add_rows(rows, part, known, starts)


def add_choose(rows, tree, known, starts):
    """The rows of a choose, of which only one of two trees is done."""
    first, chosen, other = within(tree)
    add_rows(rows, first, known, starts)
    # One row behind those of the chosen tree there is the skip.
    rows.append(("unless", len(rows) + 1 + length(chosen) + 1))
    add_rows(rows, chosen, known, starts)
    rows.append(("skip", len(rows) + 1 + length(other)))
    add_rows(rows, other, known, starts)


def add_let(rows, tree, known, starts):
    """The rows of a let, whose name has the slot behind all that are known."""
    (first, first_known), (second, second_known) = scoped(tree, known)
    add_rows(rows, first, first_known, starts)
    rows.append(("keep", len(known)))
    add_rows(rows, second, second_known, starts)
