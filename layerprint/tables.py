"""Tables: they show that no order of a layer's strokes has a smaller empty way than so much."""

from layerprint.bodies import is_number, is_rising
from layerprint.strokes import check_place, drawn_next, is_place, strokes


def table(body, z, place):
    """Tell a table that shows the least empty way of a layer from the place on, its rows rising."""
    runs = strokes(body, z)
    check_place(place)
    known = {}
    _least(runs, (), place, known)
    return sorted([(done, where, known[(done, where)]) for done, where in known])


def holds(body, z, place, much, told):
    """Tell if the table shows that no order has a smaller empty way than so much."""
    runs = strokes(body, z)
    check_place(place)
    numbers = {}
    for done, where, number in told:
        if not _are_strokes(runs, done) or not is_place(where) or (done, where) in numbers:
            return False
        numbers[(done, where)] = number
    start = ((), place)
    if start not in numbers or numbers[start] < much:
        return False
    return all(_is_low_enough(runs, done, where, numbers) for done, where in numbers)


def _least(runs, done, place, known):
    """Tell the least empty way through the strokes that aren't done, and note it as known."""
    key = (done, place)
    if key not in known:
        ways = [far + _least(runs, further, end, known) for _, far, further, end in drawn_next(runs, done, place)]
        known[key] = min(ways, default=0)
    return known[key]


def _are_strokes(runs, done):
    """Tell if the tuple has numbers of strokes alone, rising."""
    return all(is_number(number, 0, len(runs) - 1) for number in done) and is_rising(done)


def _is_low_enough(runs, done, place, numbers):
    """Tell if the number there is no more than what follows from the numbers behind each next stroke."""
    number = numbers[(done, place)]
    if len(done) == len(runs):
        return number <= 0
    return all(
        (further, end) in numbers and number <= far + numbers[(further, end)]
        for _, far, further, end in drawn_next(runs, done, place)
    )
