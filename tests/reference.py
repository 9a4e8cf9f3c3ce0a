"""The document's words once more, as plainly as can be, to compare the program with."""

from itertools import combinations, permutations, product


def turn(edge, cell):
    x, y, z = cell
    return {"x": (x, 3 - z, y), "y": (z, y, 3 - x), "z": (3 - y, x, z)}[edge]


def held(body):
    """The cells of a body that stays in the room, as a set."""
    word = body[0]
    if word == "block":
        (x, y, z), (a, b, c) = body[1:]
        return set(product(range(x, x + a), range(y, y + b), range(z, z + c)))
    if word == "cells":
        return set(body[1])
    if word == "moved":
        return {tuple(p + q for p, q in zip(cell, body[1])) for cell in held(body[2])}
    if word == "turned":
        return {turn(body[1], cell) for cell in held(body[2])}
    one, other = held(body[1]), held(body[2])
    return {"with": one | other, "common": one & other, "less": one - other}[word]


def at_corner(found):
    """The cells, as a set or list, moved to the corner: a rising list."""
    least = [min((cell[k] for cell in found), default=0) for k in range(3)]
    return sorted(tuple(n - low for n, low in zip(cell, least)) for cell in found)


def by_word(word, found):
    for edge in word:
        found = [turn(edge, cell) for cell in found]
    return at_corner(found)


def all_turnings(found, longest=6):
    """Every word is tried, the shortest first, of as long ones in their order as texts."""
    told = []
    for length in range(longest + 1):
        for letters in product("xyz", repeat=length):
            word = "".join(letters)
            turned = by_word(word, found)
            if all(turned != other for _, other in told):
                told.append((word, turned))
    return told


def beneath(cell):
    x, y, z = cell
    return (x, y, z - 1)


def is_carried(found, props, cell):
    return cell[2] == 0 or beneath(cell) in found or cell in props


def can_prop(found, cell):
    return cell in found and not is_carried(found, [], cell)


def way(found, props, cell):
    """How far the cell is from a carried one of its layer: wider and wider rings around it."""
    seen, ring, far = {cell}, {cell}, 0
    while ring:
        if any(is_carried(found, props, one) for one in ring):
            return far
        wider = {(x + p, y + q, z) for x, y, z in ring for p, q in ((1, 0), (-1, 0), (0, 1), (0, -1))}
        ring = (wider & set(found)) - seen
        seen |= ring
        far += 1
    return None


def hanging(found, props, reach):
    told = [(cell, way(found, props, cell)) for cell in sorted(found)]
    return [(cell, far) for cell, far in told if far is None or far > reach]


def fill(found, props):
    """How many cells all props fill."""
    many = 0
    for x, y, z in props:
        for below in reversed(range(z)):
            if (x, y, below) in found:
                break
            many += 1
    return many


def hangs_there(found, props, reach, z):
    return [cell for cell, _ in hanging(found, props, reach) if cell[2] == z]


def best_props(found, reach, z):
    """Every group of cells of the layer is tried; None, if none hangs without props."""
    layer = [cell for cell in sorted(found) if cell[2] == z and can_prop(found, cell)]
    wanted = hangs_there(found, [], reach, z)
    if not wanted:
        return None
    helped = {}
    for cell in layer:
        still = hangs_there(found, [cell], reach, z)
        helped[cell] = sum(1 << at for at, one in enumerate(wanted) if one not in still)
    for many in range(len(layer) + 1):
        doing = []
        for group in combinations(layer, many):
            all_helped = 0
            for cell in group:
                all_helped |= helped[cell]
            if all_helped == (1 << len(wanted)) - 1:
                doing.append(list(group))
        if doing:
            return min(doing, key=lambda group: (fill(found, group), group))


def paper_shows(found, reach, z, many, paper, props=()):
    """Point 8, word for word."""
    cell, papers = paper
    hang = hangs_there(found, props, reach, z)
    if cell not in hang:
        return False
    if many == 0:
        return papers == []
    under = [
        other
        for other in sorted(found)
        if other[2] == z
        and can_prop(found, other)
        and other not in props
        and cell not in hangs_there(found, [*props, other], reach, z)
    ]
    return len(papers) == len(under) and all(
        paper_shows(found, reach, z, many - 1, inner, (*props, other)) for other, inner in zip(under, papers)
    )


def runs(found, z):
    """Every tuple (y, first, last) is tried: all between are cells, and those beyond are none."""
    told = []
    for y, first, last in product(range(4), repeat=3):
        row = [x for x in range(4) if (x, y, z) in found]
        between = all(x in row for x in range(first, last + 1))
        if first <= last and between and first - 1 not in row and last + 1 not in row:
            told.append((y, first, last))
    return told


def drawn(told, place, order):
    """The empty way of an order, and the place where the head is at its end."""
    empty = 0
    for number, way_about in order:
        y, first, last = told[number]
        start, end = (last, first) if way_about else (first, last)
        empty += abs(place[0] - start) + abs(place[1] - y)
        place = (end, y)
    return empty, place


def all_orders(told):
    return [
        list(zip(numbers, ways))
        for numbers in permutations(range(len(told)))
        for ways in product((0, 1), repeat=len(told))
    ]


def best_orders(layers, place):
    """Every list of orders is tried: the least empty way, and the first list that has it."""
    tried = []
    for orders in product(*(all_orders(told) for told in layers)):
        at, empty = place, 0
        for told, order in zip(layers, orders):
            more, at = drawn(told, at, order)
            empty += more
        tried.append((empty, list(orders)))
    return min(tried)


def least_way(layers, place, done=()):
    """The least empty way of what is left behind the strokes that are done in the lowest layer.

    All strokes are drawn one after another in every order at once: what counts of an order is which
    strokes it has drawn, where the head is then, and how far it went.
    """
    now = {place: 0}
    for at, told in enumerate(layers):
        states = {(frozenset(() if at else done), here): far for here, far in now.items()}
        for _ in range(len(told) - (0 if at else len(done))):
            further = {}
            for (drawn_yet, here), far in states.items():
                for number, way_about in product(set(range(len(told))) - drawn_yet, (0, 1)):
                    more, end = drawn(told, here, [(number, way_about)])
                    key = (drawn_yet | {number}, end)
                    further[key] = min(far + more, further.get(key, far + more))
            states = further
        now = {}
        for (_, here), far in states.items():
            now[here] = min(far, now.get(here, far))
    return min(now.values())


def is_best(layers, place, empty, orders):
    """Whether the orders have this empty way, none a smaller one, and none ahead of them the same."""
    if [sorted(number for number, _ in order) for order in orders] != [list(range(len(told))) for told in layers]:
        return False
    if empty != least_way(layers, place):
        return False
    far = 0
    for at, order in enumerate(orders):
        done = ()
        for stroke in order:
            for other in product(range(len(layers[at])), (0, 1)):
                if other[0] not in done and other < stroke:
                    more, end = drawn(layers[at], place, [other])
                    if far + more + least_way(layers[at:], end, (*done, other[0])) == empty:
                        return False
            more, place = drawn(layers[at], place, [stroke])
            far += more
            done = (*done, stroke[0])
    return far == empty


def table_shows(told, start, much, table):
    """Point 11, word for word; told are the strokes of the layer."""
    every = range(len(told))
    numbers = {}
    for done, here, number in table:
        if any(each not in every for each in done) or list(done) != sorted(set(done)):
            return False
        if any(each not in range(4) for each in here) or (done, here) in numbers:
            return False
        numbers[done, here] = number
    if ((), start) not in numbers or numbers[(), start] < much:
        return False
    for (done, here), number in numbers.items():
        if set(done) == set(every) and number > 0:
            return False
        for each, way_about in product(set(every) - set(done), (0, 1)):
            more, end = drawn(told, here, [(each, way_about)])
            behind = (tuple(sorted({*done, each})), end)
            if behind not in numbers or number > more + numbers[behind]:
                return False
    return True


def text_of(found):
    """The text of a body, row by row from layer 0 up."""
    rows = []
    for z in range(4):
        if any(cell[2] >= z for cell in found):
            rows += ["-"] if rows else []
            rows += ["".join("#" if (x, y, z) in found else "." for x in range(4)) for y in range(4)]
    return "\n".join(rows)


def wrong_row(text):
    """Point 14: the number of the row that a text is refused with; None, if it is one of a body."""
    rows = text.split("\n") if text else []
    for at, row in enumerate(rows):
        y, z = at % 5, at // 5
        fits = row == "-" if y == 4 else row in ["".join(signs) for signs in product(".#", repeat=4)]
        if not fits or (z, y) >= (3, 4):
            return at
    if rows and len(rows) not in (4, 9, 14, 19):
        return len(rows)
    if rows and "#" not in "".join(rows[-4:]):
        return len(rows) - 1
    return None
