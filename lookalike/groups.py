"""Watchers together, and all watchers at once."""
from lookalike.bare import Explored
from lookalike.partings import Search


def joined_image(image, lot):
    """The image with one level more, within which is all that is within a level of this lot."""
    order = image[0]
    below = [low for low in range(len(order)) if any(low in order[level] for level in lot)]
    return ((*order, (*below, len(order))), *image[1:])


def parting_levels(image, ends, most):
    """The ascending tuple of the levels for which two runs part."""
    explored = Explored(image, most)
    return tuple([level for level in range(len(image[0])) if Search(explored, ends, level).parting() is not None])
