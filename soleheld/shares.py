"""Shares: the sizes of blocks that are told of a bundle, and what becomes of them behind a question."""


def part_sizes(question, blocks, sizes):
    """The list of the sizes of the blocks that a question splits, of the sizes of all blocks."""
    found = {block[0]: size for block, size in zip(blocks, sizes)}
    return [found[markings] for markings, _, _ in question.parts]


def full_rows(question, due, rows):
    """The tuple of the rows of all parts: those of the due parts, and zeros for all others."""
    found = [(0,) * len(subs) for _, _, subs in question.parts]
    for part, row in zip(due, rows):
        found[part] = row
    return tuple(found)


def sum_of_rows(first, second):
    """The rows of all parts of two bundles together."""
    return tuple([tuple([a + b for a, b in zip(row, other)]) for row, other in zip(first, second)])


def sizes_behind(question, blocks, sizes, rows, new_blocks):
    """The list of the sizes of the blocks behind a question, with the rows of all its parts."""
    found = {block[0]: size for block, size in zip(blocks, sizes)}
    for (_, _, subs), row in zip(question.parts, rows):
        for sub, size in zip(subs, row):
            found[sub] = size
    return [found[block[0]] for block in new_blocks]
