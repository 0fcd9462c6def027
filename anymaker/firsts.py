"""FIRST: the maker that gives each request the first option that is let, and what it shows."""

from anymaker.automata import classes_of

NEVER = 0
RUINED = 1


class Firsts:
    """What FIRST shows from each standing of a field, as rows like those of machines.

    at[number] is the index of the row of a standing; rows are equal or unlike by their classes.
    If ends are told, rows that end are unlike as well by their worth and memory.
    """

    def __init__(self, field, are_ends_told=False):
        self.field = field
        self.are_ends_told = are_ends_told
        self.rows = [("never",), ("ruined",)]
        self.at = {}
        onward = self.onward()
        for number in range(len(field.owners)):
            self.settle(number, onward)
        for number in range(len(field.owners)):
            if onward[number] == number:
                self.rows[self.at[number]] = self.row_at(number)
        self.classes = classes_of([head_of(row) for row in self.rows], [ways_at(row) for row in self.rows])

    def onward(self):
        """Where FIRST goes without an event from each standing: to itself if it stays, None if it is ruined."""
        found = {}
        for number in range(len(self.field.owners)):
            step = self.field.step(number)
            begin = number - self.field.own(number)
            found[number] = number
            if step[0] == "chooses":
                found[number] = None if step[3][0] is None else begin + step[3][0]
            elif step[0] == "goes" and step[1] is None:
                found[number] = begin + step[2]
        return found

    def settle(self, number, onward):
        """Finds the row of a standing, and of all on the silent way from it."""
        trail = {}
        while number is not None and number not in self.at and number not in trail:
            trail[number] = True
            if onward[number] == number:
                self.at[number] = len(self.rows)
                self.rows.append(None)
            else:
                number = onward[number]
        row = NEVER
        if number is None:
            row = RUINED
        elif number in self.at:
            row = self.at[number]
        for one in trail:
            self.at[one] = row

    def row_at(self, number):
        """The row of a standing at which FIRST has no silent step."""
        step = self.field.step(number)
        begin = number - self.field.own(number)
        if step[0] == "goes":
            return ("shows", step[1][1], self.at[begin + step[2]])
        if step[0] == "asks":
            return ("asks", tuple([self.at[begin + reached] for reached in step[1]]))
        if self.are_ends_told and step[0] == "ends":
            return (step + (self.field.memory(number),),)
        return step[:1]

    def class_at(self, number):
        """Equal just for standings from which FIRST shows the same; None stands for ruin."""
        return self.classes[RUINED if number is None else self.at[number]]


def head_of(row):
    return row[:2] if row[0] == "shows" else row[:1]


def ways_at(row):
    """The pairs of an input, or None, and the row behind it."""
    if row[0] == "shows":
        return [(None, row[2])]
    if row[0] == "asks":
        return list(enumerate(row[1]))
    return []
