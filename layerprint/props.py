"""Props: the fewest with which no cell of a layer hangs, and papers that show why fewer don't do."""

from layerprint.bodies import SIDE, cells, check_layer
from layerprint.hanging import beside, check_reach, fill, hanging_cells


def fewest(body, reach):
    """Tell of each layer that needs props the fewest, and a paper of why fewer don't do."""
    held = cells(body)
    check_reach(reach)
    told = []
    for z in range(SIDE):
        helps = _helps(held, reach, z)
        if helps:
            props = _best_props(held, helps)
            told.append((z, props, _paper(helps, len(props) - 1)))
    return told


def shows(body, reach, z, many, paper):
    """Tell if the paper shows that so many props don't do in the layer."""
    held = cells(body)
    check_reach(reach)
    check_layer(z)
    return _is_shown(_helps(held, reach, z), many, paper)


def _helps(held, reach, z):
    """Tell, of each cell of the layer that hangs without props, where a prop would help it, rising.

    That is under each cell within reach: none of these is carried, or the cell wouldn't hang.
    """
    hanging = hanging_cells(held, [], reach)
    return {cell: _within(held, cell, reach) for cell, _ in hanging if cell[2] == z}


def _within(held, cell, reach):
    """Tell the cells to which no more steps than reach lead from the cell, rising."""
    found = [cell]
    for _ in range(reach):
        further = [other for known in found for other in beside(known) if other in held]
        found = sorted(set(found + further))
    return found


def _still_hanging(helps, prop):
    """Tell the helps of those cells that the prop doesn't help."""
    return {cell: helps[cell] for cell in helps if prop not in helps[cell]}


def _least_helped(helps):
    """Tell the first of the cells for which the fewest props would do."""
    # One of them must stand in any case: the fewer there are, the fewer ways are to be followed.
    return min(list(helps), key=lambda cell: len(helps[cell]))


def _best_props(held, helps):
    """Tell the fewest props that do, of these the ones that fill least, of these the first."""
    found = []
    many = 0
    while not found:
        many += 1
        found = _all_that_do(helps, [], many)
    return min(found, key=lambda props: (fill(held, props), props))


def _all_that_do(helps, props, many):
    """Tell the rising lists of these props and so many more with which none hangs, some repeatedly."""
    if not helps:
        return [sorted(props)]
    if many == 0:
        return []
    told = []
    for prop in helps[_least_helped(helps)]:
        told.extend(_all_that_do(_still_hanging(helps, prop), props + [prop], many - 1))
    return told


def _paper(helps, many):
    """Tell a paper that so many props don't do for the cells that still hang."""
    cell = _least_helped(helps)
    papers = []
    if many > 0:
        papers = [_paper(_still_hanging(helps, prop), many - 1) for prop in helps[cell]]
    return (cell, papers)


def _is_shown(helps, many, paper):
    """Tell if the paper shows that so many props don't do for the cells that still hang."""
    cell, papers = paper
    if cell not in helps:
        return False
    if many == 0:
        return papers == []
    if len(papers) != len(helps[cell]):
        return False
    return all(
        _is_shown(_still_hanging(helps, prop), many - 1, one)
        for prop, one in zip(helps[cell], papers)
    )
