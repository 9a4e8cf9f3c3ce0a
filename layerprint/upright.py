"""Which way up: the turnings of a body, and how many props each of them needs."""

from layerprint.hanging import check_reach, fill
from layerprint.props import fewest
from layerprint.turning import turnings


def best(body, reach):
    """Tell of each turning its word, its fewest props and how many cells they fill, the best ones first."""
    found = turnings(body)
    check_reach(reach)
    told = [_counted(word, held, reach) for word, held in found]
    # Sorting leaves those that are as good in the order in which turnings tells them.
    return sorted(told, key=lambda row: (row[1], row[2]))


def _counted(word, held, reach):
    """Tell the word, how many props these cells need, and how many cells the props fill."""
    body = ("cells", tuple(held))
    props = [cell for _, under, _ in fewest(body, reach) for cell in under]
    return (word, len(props), fill(held, props))
