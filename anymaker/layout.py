"""Words one behind another, by lines and columns: where each one belongs, and what is wanted behind them."""

from anymaker.forms import KINDS, OPERATIONS
from anymaker.frames import FIGURES, NAME, Frame
from anymaker.words import is_name

END = "END"
TOLD = ("NAME", "END")
HEADS = ("ask", "each", "group", "if", "set", "show", "while")


class Layout:
    """The frames of the words so far; stack has those in which the last word stands, the innermost one last.

    The first frame has no word: it is for a whole text, or for rows that are a block alone.
    """

    def __init__(self, role, names, ahead):
        self.root = Frame(role, "", 0, 0)
        self.stack = [self.root]
        self.names = names
        self.ahead = ahead
        self.many = 0
        self.line = 1
        self.column = 1

    def all_wanted(self):
        """What is wanted behind the words so far."""
        here, ways = self.ways()
        below = [(low, high, tuple(sorted(words))) for _, low, high, words in ways]
        return (tuple(sorted(here)), tuple(below[::-1]))

    def is_complete(self):
        return END in self.ways()[0]

    def ways(self):
        """The words that can stand here, and tuples (frame, low, high, words) for later lines, innermost first.

        A frame is wanted to go on by an item of its list, or by a row.
        """
        here, is_needed = self.stack[-1].own_wanted(self.names, self.ahead)
        ways = []
        if is_needed:
            return here, ways
        for frame in reversed(self.stack):
            words = self.item_words(frame)
            if not frame.listed and frame.must_have_more():
                ways.append((frame, frame.column + 1, None, words))
                return (here + words if self.many else []), ways
            if frame.can_have_more():
                ways.append((frame, frame.list_column, frame.list_column, words))
                if frame.must_have_more():
                    return here, ways
            if frame.rows_wanted():
                ways.append((frame, frame.column, frame.column, frame.rows_wanted()))
                return here, ways
        return here + [END], ways

    def item_words(self, frame):
        """The words with which the next item of a frame may begin."""
        if frame.role == "text":
            return ["document", "program"]
        if frame.role == "document":
            return list(KINDS[len(frame.listed):][:1])
        words = list(FIGURES) + list(self.names) + list(OPERATIONS) + list(HEADS)
        return words + ["call"] if self.ahead else words

    def take(self, word, line, column):
        """Goes on by a word at this place; whether it can stand there."""
        here, ways = self.ways()
        if self.many and line == self.line:
            if not self.can_take(here, word):
                return False
            if self.can_take(self.stack[-1].own_wanted(self.names, self.ahead)[0], word):
                self.stack[-1].own_words.append(word)
            else:
                self.put_item(word, column)
        else:
            found = [way for way in ways if is_in_columns(way, column) and word in way[3]]
            if not found:
                return False
            self.go_back_to(found[0][0])
            self.put_row(word, column)
        self.many += 1
        self.line = line
        self.column = column + len(word)
        return True

    def can_take(self, words, word):
        if word in words:
            return word not in TOLD
        return NAME in words and is_name(word) and word not in self.taken_names()

    def taken_names(self):
        """The names that a new name at the last word's frame may not be."""
        frame = self.stack[-1]
        return frame.own_words if frame.role == "program" else self.ahead

    def go_back_to(self, frame):
        """Ends all frames within this one, which go on no further."""
        while self.stack[-1].at != frame.at or self.stack[-1].role != frame.role:
            self.stack.pop()

    def put_row(self, word, column):
        """Begins a line in the last frame: a row of it, or an item of its list."""
        frame = self.stack[-1]
        if word not in frame.rows_wanted():
            self.put_item(word, column)
            return
        row = Frame(word, word, self.many, column)
        frame.rows.append(row)
        self.stack.append(row)
        if frame.role == "program":
            self.names = list(frame.own_words)
            self.ahead = [one.own_words[0] for one in frame.rows[:-1]]

    def put_item(self, word, column):
        frame = self.stack[-1]
        item = Frame(self.role_of(word), word, self.many, column)
        if not frame.listed:
            frame.list_column = column
        frame.listed.append(item)
        self.stack.append(item)

    def role_of(self, word):
        if word in FIGURES:
            return "number"
        return "variable" if word in self.names else word


def is_in_columns(way, column):
    _, low, high, _ = way
    return low <= column and (high is None or column <= high)
