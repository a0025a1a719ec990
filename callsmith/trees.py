"""The trees of a program, and what a program is refused for."""

from callsmith.errors import NameTwice, NoSuchFunction, NoSuchName, TooTall, WrongCount

MOST_LEVELS = 12


def within(tree):
    """A list of the trees right within a tree, from the left."""
    word = tree[0]
    if word == "num" or word == "name":
        return []
    if word == "let":
        return [tree[2], tree[3]]
    if word == "call":
        return list(tree[2])
    return list(tree[1:])


def checked(program):
    """How many things each function takes, by their names in their order."""
    counts = counts_of(program)
    ahead = []
    for name, takes, body in program:
        if name in ahead:
            raise NameTwice(f"two functions are called {name}")
        check_takes(name, takes)
        check_tree(body, takes, counts, 1)
        ahead.append(name)
    return counts


def counts_of(program):
    """The counts by name; of two functions of one name the first counts."""
    counts = {}
    for name, takes, _ in program:
        if name not in counts:
            counts[name] = len(takes)
    return counts


def check_takes(name, takes):
    """Refuse a function that takes two things under one name."""
    if len(set(takes)) < len(takes):
        raise NameTwice(f"{name} takes two things under one name")


def check_tree(tree, known, counts, level):
    """Refuse a tree, or one within it, where the names in `known` stand."""
    if level > MOST_LEVELS:
        raise TooTall(f"a body is higher than {MOST_LEVELS} levels")
    if tree[0] == "name":
        check_name(tree[1], known)
    if tree[0] == "call":
        check_call(tree[1], len(tree[2]), counts)
    for part, part_known in scoped(tree, known):
        check_tree(part, part_known, counts, level + 1)


def check_name(name, known):
    """Refuse a name that stands for nothing here."""
    if name not in known:
        raise NoSuchName(f"{name} stands for nothing here")


def check_call(name, given, counts):
    """Refuse a call of no function, or of another number of things."""
    if name not in counts:
        raise NoSuchFunction(f"there is no function {name}")
    if given != counts[name]:
        raise WrongCount(f"{name} takes {counts[name]} things and is given {given}")


def scoped(tree, known):
    """The trees right within a tree, each with the names that stand in it."""
    parts = within(tree)
    if tree[0] != "let":
        return [(part, known) for part in parts]
    # The name of a let stands in its second tree alone.
    return [(parts[0], known), (parts[1], (*known, tree[1]))]
