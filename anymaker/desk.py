"""A desk: a text, a document and a run of it, with deeds that can be taken back, and questions."""

from anymaker.asking import asks
from anymaker.blames import hangs_on
from anymaker.choices import choices
from anymaker.documents import anew_kinds, options_of
from anymaker.errors import BadChoice, BadInputs, BadOptions, BadPart, BadPath, BadProgram, BadText
from anymaker.errors import NothingDone, NothingUndone, TooMany
from anymaker.forms import ASKING
from anymaker.makers import maker_of
from anymaker.others import others
from anymaker.patches import cut, put
from anymaker.programs import places
from anymaker.reading import read
from anymaker.ruins import ruin
from anymaker.runs import requests, run
from anymaker.steadies import is_portable
from anymaker.words import is_name, is_text, words_of
from anymaker.writing import text_of

FIRST_DOCUMENT = (
    "document", ("run", ("left", "right")), ("run", ("up", "down")), ("run", (0,)), ("run", (2,)), "ahead",
)
MOST_INPUTS = 30
MOST_EVENTS = 50
WHAT = "what"
DONE = "ok"
OPTION_WORDS = ("left", "right", "up", "down", "0", "1", "2", "3", "none")
FIGURES = "0123456789"
FORMS = {
    "put": ("part", "path"), "choose": ("number",), "answer": ("option",), "give": ("number",), "again": (),
    "undo": (), "redo": (), "text": (), "tidy": (), "cut": ("part", "path"), "others": (), "choices": (),
    "places": ("kind",), "run": (), "requests": (), "portable": (), "hangs": (), "asks": (), "ruin": (),
}


class Desk:
    """What a desk has now, what it had ahead of each deed, and what was taken back."""

    def __init__(self, text):
        if read(text)[0] != "program":
            raise BadProgram("the text tells a document")
        self.now = {"text": text, "document": FIRST_DOCUMENT, "number": 0, "inputs": (), "options": ()}
        self.done = []
        self.undone = []

    def say(self, line):
        """Does a deed, or answers a question; an error changes nothing."""
        try:
            return self.answer_to(line)
        except BadText:
            return "error BadText"
        except BadPart:
            return "error BadPart"
        except BadPath:
            return "error BadPath"
        except BadChoice:
            return "error BadChoice"
        except BadOptions:
            return "error BadOptions"
        except BadInputs:
            return "error BadInputs"
        except TooMany:
            return "error TooMany"
        except NothingDone:
            return "error NothingDone"
        except NothingUndone:
            return "error NothingUndone"

    def answer_to(self, line):
        told = told_line(line)
        if told is None:
            return WHAT
        word, values = told
        if word == "undo":
            return self.take_back()
        if word == "redo":
            return self.do_again()
        if word in QUESTIONS:
            question = QUESTIONS[word]
            return question(self.now, values)
        deed = DEEDS[word]
        behind = deed(self.now, values)
        self.done.append(self.now)
        self.undone = []
        self.now = behind
        return DONE

    def take_back(self):
        if not self.done:
            raise NothingDone("no deed to take back")
        self.undone.append(self.now)
        self.now = self.done.pop()
        return DONE

    def do_again(self):
        if not self.undone:
            raise NothingUndone("no undo to take back")
        self.done.append(self.now)
        self.now = self.undone.pop()
        return DONE


def told_line(line):
    """The first word of a line and the values behind it, None for any value of another form."""
    if not is_text(line):
        return None
    if words_of(line)[:1] in ([("program", 1, 1)], [("document", 1, 1)]):
        return "read", [line]
    first, feed, rows = line.partition("\n")
    words = first.split(" ")
    forms = FORMS.get(words[0], ())
    if words[0] not in FORMS or len(words) != 1 + len(forms) or (words[0] == "put") != (feed == "\n"):
        return None
    values = [told_value(form, word) for form, word in zip(forms, words[1:])]
    if None in values:
        return None
    return words[0], values + ([rows] if feed else [])


def told_value(form, word):
    """The value that a word has in this form, None if it has none."""
    if form == "number":
        return int(word) if is_plain_number(word) else None
    if form == "path":
        return told_path(word)
    if form == "part":
        return word if is_name(word) or word == "body" else None
    if form == "kind":
        return word if word in ASKING else None
    if word not in OPTION_WORDS:
        return None
    return int(word) if word in FIGURES else word


def is_plain_number(word):
    """Whether a word has at most three figures, and no 0 ahead of others."""
    if not 1 <= len(word) <= 3 or not all([sign in FIGURES for sign in word]):
        return False
    return len(word) == 1 or word[0] != "0"


def told_path(word):
    if word == "-":
        return ()
    figures = word.split(".")
    if not all([len(figure) == 1 and figure in FIGURES for figure in figures]):
        return None
    return tuple([int(figure) for figure in figures])


def with_changes(state, changes):
    """What a desk has behind changes of it."""
    found = dict(state)
    found.update(changes)
    return found


def take_text(state, values):
    thing = read(values[0])
    if thing[0] == "document":
        return with_changes(state, {"document": thing, "number": 0, "options": ()})
    return with_changes(state, {"text": values[0], "number": 0, "options": ()})


def put_rows(state, values):
    part, path, rows = values
    return with_changes(state, {"text": put(state["text"], part, path, rows), "number": 0, "options": ()})


def choose(state, values):
    if values[0] >= len(choices_at(state)):
        raise BadChoice("the number of no choice")
    return with_changes(state, {"number": values[0], "options": ()})


def answer(state, values):
    document = state["document"]
    if values[0] not in [option for kind in anew_kinds(document) for option in options_of(document, kind)]:
        raise BadOptions("no option that is let anew")
    return with_changes(state, {"options": state["options"] + (values[0],)})


def give(state, values):
    if values[0] > 7 or len(state["inputs"]) == MOST_INPUTS:
        raise BadInputs("a number above 7, or too many inputs")
    return with_changes(state, {"inputs": state["inputs"] + (values[0],)})


def begin_again(state, values):
    return with_changes(state, {"inputs": (), "options": ()})


def program_at(state):
    return read(state["text"])


def choices_at(state):
    return choices(state["document"], program_at(state))


def maker_at(state):
    choice = choices_at(state)[state["number"]]
    return maker_of(state["document"], program_at(state), choice, state["options"])


def tell_text(state, values):
    return state["text"]


def tell_tidy(state, values):
    return text_of(program_at(state))


def tell_cut(state, values):
    return cut(state["text"], values[0], values[1])


def tell_others(state, values):
    return str(len(others(state["text"])))


def tell_choices(state, values):
    return str(len(choices_at(state)))


def tell_places(state, values):
    return as_list([place_words(place) for place in places(program_at(state), values[0])])


def tell_run(state, values):
    events, end = run(state["document"], program_at(state), maker_at(state), state["inputs"], MOST_EVENTS)
    return " ".join([f"{word} {number}" for word, number in events] + [end])


def tell_requests(state, values):
    found = requests(state["document"], program_at(state), maker_at(state), state["inputs"], MOST_EVENTS)
    return as_list([[kind] + place_words(place) + [str(option)] for kind, place, option in found])


def tell_portable(state, values):
    return "yes" if is_portable(state["document"], program_at(state)) else "no"


def tell_hangs(state, values):
    return as_list([[kind] + spot_words(at) for kind, at in hangs_on(state["document"], program_at(state))])


def tell_asks(state, values):
    return str(len(asks(state["document"], program_at(state))))


def tell_ruin(state, values):
    found = ruin(state["document"], program_at(state))
    return "safe" if found[0] == "safe" else f"ruined {found[1]}"


def as_list(rows):
    return "(" + " ".join(["(" + " ".join(words) + ")" for words in rows]) + ")"


def place_words(place):
    part, path = place
    return [part, ".".join([str(at) for at in path]) if path else "-"]


def spot_words(at):
    """The words of what a spot has beside its kind: nothing, a part, or a place."""
    if at is None:
        return []
    return [at] if isinstance(at, str) else place_words(at)


DEEDS = {
    "read": take_text, "put": put_rows, "choose": choose, "answer": answer, "give": give, "again": begin_again,
}
QUESTIONS = {
    "text": tell_text, "tidy": tell_tidy, "cut": tell_cut, "others": tell_others, "choices": tell_choices,
    "places": tell_places, "run": tell_run, "requests": tell_requests, "portable": tell_portable,
    "hangs": tell_hangs, "asks": tell_asks, "ruin": tell_ruin,
}
