"""Trees that show that no answer goes on with a choice: which rows they name."""


def rows_named(tree):
    """The ascending list of the numbers of the rows that are broken somewhere in a tree."""
    return sorted(set(_leaves(tree)))


def _leaves(tree):
    """The numbers of the rows at the ends of a tree, from the least value on."""
    if tree[0] == "broken":
        return [tree[1]]
    return [number for branch in tree[2] for number in _leaves(branch)]


def renumbered(tree, numbers):
    """The tree with the number numbers[k] for each row k that it names."""
    if tree[0] == "broken":
        return ("broken", numbers[tree[1]])
    return ("split", tree[1], [renumbered(branch, numbers) for branch in tree[2]])
