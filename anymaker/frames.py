"""Frames: a head with what stands behind it so far, and which words may go on there."""

from anymaker.forms import KINDS, OPERATIONS, OPTIONS

FIGURES = ("0", "1", "2", "3", "4", "5", "6", "7")
BLOCKS = ("each", "do", "then", "else", "part", "body", "rows", "group")
ROWS = {"while": ("do",), "if": ("then", "else")}
MOST_PARTS = 6
NAME = "NAME"
SLOTS = {
    "variable": ("reads", "number read"), "call": ("part",), "set": ("variable",),
    "each": ("variable", "low", "high", "way"), "program": ("name", "name more", "name more", "name more"),
    "part": ("name",), "document": ("ruin",),
}
OPTIONAL = ("reads", "way", "side", "name more")
SLOT_WORDS = {
    "reads": ("reads",), "number read": ("0", "1", "2", "3"), "low": ("0", "1", "2", "3", "4", "5", "6", "7"),
    "way": ("down", "up"), "side": ("left", "right"), "name": ("NAME",), "name more": ("NAME",),
    "ruin": ("ahead", "whole"),
}


class Frame:
    """A head that stands as the word with this index at a column; sort tells what it is.

    own are the words of its own row, listed the items of its list, rows what begins a line at its column.
    """

    def __init__(self, sort, word, begin, column):
        self.sort = sort
        self.word = word
        self.begin = begin
        self.column = column
        self.own = []
        self.listed = []
        self.rows = []
        self.list_column = None

    def behind(self):
        """The index of the word behind all of its words."""
        inner = self.listed + self.rows
        return inner[-1].behind() if inner else self.begin + len(self.own) + 1

    def is_block(self):
        return self.sort in BLOCKS

    def fewest(self):
        """How many items its list has at least; all but blocks have just so many."""
        if self.sort == "document":
            return len(KINDS)
        if self.sort in OPERATIONS or self.sort == "group":
            return 2
        return 1 if self.is_block() or self.sort in ("set", "show", "while", "if", "text") else 0

    def can_have_more(self):
        return self.is_block() or len(self.listed) < self.fewest()

    def must_have_more(self):
        """Whether its list has to go on: a group is never the last item of a block."""
        if len(self.listed) < self.fewest():
            return True
        return self.is_block() and self.listed[-1].sort == "group"

    def rows_wanted(self):
        """The words of which one has to begin a line at its column."""
        here = [row.sort for row in self.rows]
        if self.sort in ROWS:
            return [word for word in ROWS[self.sort] if word not in here][:1]
        if self.sort != "program" or "body" in here:
            return []
        return ["body", "part"] if len(here) < MOST_PARTS else ["body"]

    def own_wanted(self, names, ahead):
        """The words that may go on in its own row, and whether one of them has to.

        names are the variables of the program, ahead the parts that may be called.
        """
        if self.sort in KINDS:
            return self.ruling_wanted()
        slots = SLOTS.get(self.sort, ())
        if self.sort in OPERATIONS:
            slots = ("side",)
        if len(self.own) == len(slots):
            return [], False
        slot = slots[len(self.own)]
        words = list(SLOT_WORDS.get(slot, ()))
        if slot == "variable":
            words = list(names)
        if slot == "part":
            words = list(ahead)
        if slot == "high":
            words = list(FIGURES[FIGURES.index(self.own[-1]):])
        return words, slot not in OPTIONAL

    def ruling_wanted(self):
        """The same for a row of a document: a scope, and one or more options in order."""
        options = [str(option) for option in OPTIONS[self.sort]]
        if not self.own:
            narrow = self.sort == "width"
            return ["ever", "program", "run"] + ([] if narrow else ["anew", "part", "place"]), True
        if len(self.own) == 1:
            return options, True
        return options[options.index(self.own[-1]) + 1:], False
