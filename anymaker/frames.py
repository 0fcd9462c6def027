"""Frames: a head with what stands behind it so far, and which words may go on there."""

from anymaker.forms import KINDS, OPERATIONS, OPTIONS

FIGURES = ("0", "1", "2", "3", "4", "5", "6", "7")
BLOCKS = ("each", "do", "then", "else", "part", "body", "rows", "group")
ROWS = {"while": ("do",), "if": ("then", "else")}
MOST_PARTS = 6
NAME = "NAME"
SLOTS = {
    "variable": ("reads", "number read"), "call": ("part",), "set": ("variable",),
    "each": ("variable", "low", "high", "way"), "program": ("name", "name more", "name more", "name more"),
    "part": ("name",), "document": ("ruin",),
}
OPTIONAL = ("reads", "way", "side", "name more")
SLOT_WORDS = {
    "reads": ("reads",), "number read": ("0", "1", "2", "3"), "low": ("0", "1", "2", "3", "4", "5", "6", "7"),
    "way": ("down", "up"), "side": ("left", "right"), "name": ("NAME",), "name more": ("NAME",),
    "ruin": ("ahead", "whole"),
}


class Frame:
    """A head that stands as the word with the index at, at a column; role tells what it is.

    own_words are the words of its own row, listed the items of its list, rows what begins a line at its column.
    """

    def __init__(self, role, word, at, column):
        self.role = role
        self.word = word
        self.at = at
        self.column = column
        self.own_words = []
        self.listed = []
        self.rows = []
        self.list_column = None

    def behind(self):
        """The index of the word behind all of its words."""
        inner = self.listed + self.rows
        return inner[-1].behind() if inner else self.at + len(self.own_words) + 1

    def is_block(self):
        return self.role in BLOCKS

    def fewest(self):
        """How many items its list has at least; all but blocks have just so many."""
        if self.role == "document":
            return len(KINDS)
        if self.role in OPERATIONS or self.role == "group":
            return 2
        return 1 if self.is_block() or self.role in ("set", "show", "while", "if", "text") else 0

    def can_have_more(self):
        return self.is_block() or len(self.listed) < self.fewest()

    def must_have_more(self):
        """Whether its list has to go on: a group is never the last item of a block."""
        if len(self.listed) < self.fewest():
            return True
        return self.is_block() and self.listed[-1].role == "group"

    def rows_wanted(self):
        """The words of which one has to begin a line at its column."""
        here = [row.role for row in self.rows]
        if self.role in ROWS:
            return [word for word in ROWS[self.role] if word not in here][:1]
        if self.role != "program" or "body" in here:
            return []
        return ["body", "part"] if len(here) < MOST_PARTS else ["body"]

    def own_wanted(self, names, ahead):
        """The words that may go on in its own row, and whether one of them has to.

        names are the variables of the program, ahead the parts that may be called.
        """
        if self.role in KINDS:
            return self.ruling_wanted()
        slots = SLOTS.get(self.role, ())
        if self.role in OPERATIONS:
            slots = ("side",)
        if len(self.own_words) == len(slots):
            return [], False
        slot = slots[len(self.own_words)]
        words = list(SLOT_WORDS.get(slot, ()))
        if slot == "variable":
            words = list(names)
        if slot == "part":
            words = list(ahead)
        if slot == "high":
            words = list(FIGURES[FIGURES.index(self.own_words[-1]):])
        return words, slot not in OPTIONAL

    def ruling_wanted(self):
        """The same for a row of a document: a scope, and one or more options in order."""
        options = [str(option) for option in OPTIONS[self.role]]
        if not self.own_words:
            narrow = self.role == "width"
            return ["ever", "program", "run"] + ([] if narrow else ["anew", "part", "place"]), True
        if len(self.own_words) == 1:
            return options, True
        return options[options.index(self.own_words[-1]) + 1:], False
