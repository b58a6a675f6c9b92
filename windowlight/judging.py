"""How bytes are judged: rules 1 to 13 in their order, and the panes of bytes that break none."""

from windowlight.drawing import fault_of_bytes, read_drawing
from windowlight.outlines import outlines_of, points_at
from windowlight.rules import fault_of_drawing
from windowlight.turns import is_inside


class Verdict:
    """The fault (rule, place), or None with the drawing and the outlines of panes 0, 1, and so on."""

    def __init__(self, fault, drawing, outlines):
        self.fault = fault
        self.drawing = drawing
        self.outlines = outlines


def holder_of(mark, shapes):
    """The number of the shape, a row of corner points, that holds the mark."""
    for k, shape in enumerate(shapes):
        if is_inside(shape, mark):
            return k
    return None


def judge_marks(drawing, outlines):
    """Rules 12 and 13: just one mark in each pane."""
    shapes = [points_at(drawing.points, outline) for outline in outlines]
    marked = {}
    for k, mark in enumerate(drawing.marks):
        holder = holder_of(mark, shapes)
        if holder in marked:
            return Verdict((12, drawing.place_of_mark(k)), drawing, [])
        marked[holder] = True
    if len(marked) < len(outlines):
        return Verdict((13, drawing.place_of_end()), drawing, [])
    # A dict keeps the order in which keys came: that of the marks.
    return Verdict(None, drawing, [outlines[holder] for holder in marked])


def judge(cartoon):
    """The verdict on bytes."""
    fault = fault_of_bytes(cartoon)
    if fault is not None:
        return Verdict(fault, None, [])
    drawing = read_drawing(cartoon)
    fault = fault_of_drawing(drawing)
    if fault is not None:
        return Verdict(fault, drawing, [])
    return judge_marks(drawing, outlines_of(drawing))
