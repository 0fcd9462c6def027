"""Runs of a new program beside what the old one can have shown by then."""

from anymaker.fields import Lots
from anymaker.steps import answers_of, can_ruin, event_nexts


class Sides:
    """Rows (number, lot, wide): a standing of the new program, lots of the old one by indexes."""

    def __init__(self, document, old, new):
        self.field = new
        self.lots = Lots(old, False)
        self.wides = self.lots
        self.is_whole = document[5] == "whole"
        if self.is_whole:
            self.wides = Lots(old, True)

    def first_rows(self):
        begins = self.lots.field.begins
        lot = self.lots.least(begins)
        wide = self.wides.least(begins)
        return [(number, lot, wide) for number in self.field.begins]

    def is_done(self, row):
        """Whether nothing more is asked of a row, as the old program can be ruined by then."""
        return "ruined" in self.wides.ends(row[2])

    def fault(self, row):
        """What the new program can do next and the old one cannot: an end or event; None if there is none."""
        number, lot, _ = row
        mine = self.lots.ends(lot)
        step = self.field.step(number)
        if can_ruin(step):
            return "ruined"
        if step[0] == "ends" and "ends" not in mine:
            return "ends"
        if number in self.field.endless and "never" not in mine:
            return "never"
        behind = self.lots.behind(lot)
        if any([event not in behind for event, _ in event_nexts(step)]):
            return "waits" if step[0] == "asks" else "shown"
        return None

    def silent_rows(self, row):
        """The pairs of an answer and the row behind it, without an event."""
        number, lot, wide = row
        begin = number - self.field.own(number)
        pairs = answers_of(self.field.machine_at(number), self.field.own(number))
        return [(option, (begin + reached, lot, wide)) for option, reached in pairs]

    def event_rows(self, row):
        """The pairs of an event and the row behind it; the lot has each of these events."""
        number, lot, wide = row
        behind = self.lots.behind(lot)
        found = []
        for event, reached in self.field.eventful[number]:
            beside = behind[event]
            if self.is_whole:
                beside = self.wide_behind(wide, event)
            found.append((event, (reached, behind[event], beside)))
        return found

    def wide_behind(self, wide, event):
        """What was shown means nothing for what a ruined run frees."""
        if event[0] == "shown":
            return wide
        found = self.wides.behind(wide).get(event)
        return self.wides.least([]) if found is None else found


def searched(sides):
    """All rows that come, each with how it came, and the first one that has a fault, or None.

    A row came as (row, option, event) from another one, or is the begin (None). Rows with fewer
    events behind them are met first.
    """
    links = {}
    coming = [(row, None) for row in sides.first_rows()]
    while coming:
        level = []
        later = []
        for row, link in coming:
            met(links, level, row, link)
        at = 0
        while at < len(level):
            row = level[at]
            at += 1
            if sides.is_done(row):
                continue
            if sides.fault(row) is not None:
                return links, row
            for option, reached in sides.silent_rows(row):
                met(links, level, reached, (row, option, None))
            later.extend([(reached, (row, None, event)) for event, reached in sides.event_rows(row)])
        coming = later
    return links, None


def met(links, level, row, link):
    if row not in links:
        links[row] = link
        level.append(row)
