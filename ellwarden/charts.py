"""Charts: what a slip comes to for all rows of marks."""

from ellwarden.cards import pressed
from ellwarden.checks import is_integer
from ellwarden.errors import TooMany
from ellwarden.marks import HIGH, LOW

MOST = 1000
CLASH = ("clash",)


class Sheet:
    """A slip that is gone through for all rows of marks, and how many of them have ended."""

    def __init__(self, slip):
        # Runs of the pressed slip come to the same, and its web is a small one.
        self._slip = pressed(slip)
        self._rows = 0

    def chart_behind(self, marks):
        """The chart behind some marks."""
        slip = self._slip
        run = slip(marks)
        if run.kind == "asks":
            feature, name = run.asked
            device = slip.charter[name]
            spans = []
            for mark in range(device[LOW], device[HIGH] + 1):
                spans.append((mark, mark, self.chart_behind(marks + (mark,))))
            return ("read", feature, name, joined_spans(spans))
        self._rows += 1
        if self._rows > MOST:
            raise TooMany("mark")
        if run.kind == "clash":
            return CLASH
        return ("end", run.kind, tuple([row[1:] for row in run.rows if row[0] == "judged"]))


def chart_of(slip):
    """The chart of a slip."""
    return Sheet(slip).chart_behind(())


def joined_spans(spans):
    """The spans, neighbours with equal charts joined."""
    found = []
    for first, last, chart in spans:
        if len(found) > 0 and found[-1][2] == chart:
            first = found.pop()[0]
        found.append((first, last, chart))
    return tuple(found)


def behind(chart, marks):
    """The chart behind some marks, or None."""
    for mark in marks:
        chart = _next_chart(chart, mark)
    return chart


def _next_chart(chart, mark):
    """The chart behind a mark, or None if there is none."""
    if chart is None or chart[0] != "read" or not is_integer(mark):
        return None
    for first, last, further in chart[3]:
        if first <= mark <= last:
            return further
    return None


def parting_marks(chart, other):
    """The least row of marks behind which two charts go on differently; None for equal ones."""
    level = [((), chart, other)]
    while len(level) > 0:
        for marks, first, second in level:
            if not _go_on_alike(first, second):
                return marks
        level = _further_pairs(level)
    return None


def _go_on_alike(chart, other):
    """Whether both charts take the same reading of the same marks, or are equal ends."""
    if chart[0] != "read" or other[0] != "read":
        return chart == other
    return chart[1:3] == other[1:3] and _ends_of(chart[3]) == _ends_of(other[3])


def _ends_of(spans):
    """The low and the high mark."""
    return (spans[0][0], spans[-1][1])


def _further_pairs(level):
    """The rows that are longer by one mark, with the charts behind it. Of marks with the same
    charts behind them only the first one is taken, as the others make greater rows."""
    further = []
    for marks, chart, other in level:
        if chart != other:
            starts = [span[0] for span in chart[3] + other[3]]
            for mark in sorted(set(starts)):
                further.append((marks + (mark,), _next_chart(chart, mark), _next_chart(other, mark)))
    return further


def pruned(chart):
    """The chart without the readings that are needless."""
    if chart[0] != "read":
        return chart
    spans = _pruned_spans(chart)
    only = _only_chart(spans)
    return ("read", chart[1], chart[2], spans) if only is None else only


def _pruned_spans(chart):
    return joined_spans([(first, last, pruned(further)) for first, last, further in chart[3]])


def _only_chart(spans):
    """The chart that all spans have that do not clash, or None if they have several."""
    charts = [further for _, _, further in spans if further != CLASH]
    return charts[0] if charts == charts[:1] * len(charts) and len(charts) > 0 else None


def kept_marks(chart, marks):
    """The marks, of a row that leads to an end, of the readings that stay in the pruned chart."""
    kept = []
    for mark in marks:
        if _only_chart(_pruned_spans(chart)) is None:
            kept.append(mark)
        chart = _next_chart(chart, mark)
    return tuple(kept)


def danger(slip):
    """The least row of marks behind which a divisor can be 0 or a verdict is left open; None."""
    level = [((), chart_of(slip))]
    while len(level) > 0:
        for marks, chart in level:
            if _is_danger(chart):
                return marks
        level = _further_rows(level)
    return None


def _further_rows(level):
    """The rows that are longer by one mark, the first one of each span."""
    further = []
    for marks, chart in level:
        if chart[0] == "read":
            further.extend([(marks + (first,), behind_it) for first, _, behind_it in chart[3]])
    return further


def _is_danger(chart):
    if chart[0] != "end":
        return False
    _, kind, verdicts = chart
    return kind == "nought" or (kind == "done" and "open" in [word for _, word in verdicts])
