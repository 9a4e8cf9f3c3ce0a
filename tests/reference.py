"""The document's words once more, as plainly as can be, to compare the program with."""

from itertools import product


def turn(edge, cell):
    x, y, z = cell
    return {"x": (x, 3 - z, y), "y": (z, y, 3 - x), "z": (3 - y, x, z)}[edge]


def held(body):
    """The cells of a body that stays in the room, as a set."""
    word = body[0]
    if word == "block":
        (x, y, z), (a, b, c) = body[1:]
        return set(product(range(x, x + a), range(y, y + b), range(z, z + c)))
    if word == "cells":
        return set(body[1])
    if word == "moved":
        return {tuple(p + q for p, q in zip(cell, body[1])) for cell in held(body[2])}
    if word == "turned":
        return {turn(body[1], cell) for cell in held(body[2])}
    one, other = held(body[1]), held(body[2])
    return {"with": one | other, "common": one & other, "less": one - other}[word]


def at_corner(found):
    """The cells, as a set or list, moved to the corner: a rising list."""
    least = [min((cell[k] for cell in found), default=0) for k in range(3)]
    return sorted(tuple(n - low for n, low in zip(cell, least)) for cell in found)


def by_word(word, found):
    for edge in word:
        found = [turn(edge, cell) for cell in found]
    return at_corner(found)


def all_turnings(found, longest=6):
    """Every word is tried, the shortest first, of as long ones in their order as texts."""
    told = []
    for length in range(longest + 1):
        for letters in product("xyz", repeat=length):
            word = "".join(letters)
            turned = by_word(word, found)
            if all(turned != other for _, other in told):
                told.append((word, turned))
    return told
