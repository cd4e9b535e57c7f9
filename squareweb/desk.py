"""A desk that keeps cuts by names and answers rows of words."""

from squareweb.cuts import like_ones, sides
from squareweb.errors import NoName, NoRow
from squareweb.joins import beside, over, parted, put_within
from squareweb.lines import touching_of
from squareweb.rows import cut_by_steps, fewest
from squareweb.texts import cut_text, is_number, read_cut
from squareweb.turns import lowest, mirrored, turned
from squareweb.webs import trees, web_of

MOST_LETTERS = 8
# What stands behind the first word of each row: a name to keep by, one that is kept by, a number, or all that is left.
FORMS = {
    "keep": ("name", "text"),
    "steps": ("name", "number", "number"),
    "fewest": ("name", "number", "number"),
    "beside": ("name", "kept", "kept"),
    "over": ("name", "kept", "kept"),
    "within": ("name", "kept", "number", "kept"),
    "turn": ("name", "kept"),
    "mirror": ("name", "kept"),
    "low": ("name", "kept"),
    "show": ("kept",),
    "sides": ("kept",),
    "like": ("kept",),
    "parts": ("kept",),
    "trees": ("kept",),
    "drop": ("kept",),
    "names": (),
}


class Desk:
    """Keeps cuts by names."""

    def __init__(self):
        self.cuts = {}

    def __len__(self):
        return len(self.cuts)

    def say(self, row):
        """The answer to a row."""
        action, *words = read_words(row)
        form = FORMS[action]
        self.refuse_names(form, words)
        meant = [self.meaning(kind, word) for kind, word in zip(form, words)]
        if "name" in form:
            return self.keep(action, words[0], made_cut(action, meant[1:]))
        if action == "names":
            return " ".join(sorted(self.cuts)) or "none"
        if action == "drop":
            del self.cuts[words[0]]
            return "ok"
        return told_of(action, meant[0])

    def refuse_names(self, form, words):
        """Refuses, from the left, what is no name and what no cut is kept by."""
        for kind, word in zip(form, words):
            if kind == "name" and not is_name(word):
                raise NoName("a name has one to eight small letters")
            if kind == "kept" and word not in self.cuts:
                raise NoName("no cut is kept by this name")

    def meaning(self, kind, word):
        """What the word stands for: a cut, a number or itself."""
        if kind == "kept":
            return self.cuts[word]
        if kind == "number":
            return int(word)
        if kind == "text":
            return read_cut(word)
        return word

    def keep(self, action, name, cut):
        """Keeps a made cut by its name, and tells what the row is answered with."""
        self.cuts[name] = cut
        return "ok" if action == "keep" else str(len(cut))


def read_words(row):
    """The words of a row that has one of the forms, all that is left being one word where the form says so."""
    if not isinstance(row, str):
        raise NoRow("a row is a text")
    words = row.split(" ")
    if words[0] not in FORMS:
        raise NoRow("no row begins so")
    form = FORMS[words[0]]
    if "text" in form:
        words = row.split(" ", len(form))
    if len(words) != 1 + len(form):
        raise NoRow("this row has another number of words")
    for kind, word in zip(form, words[1:]):
        if kind == "number" and not is_number(word):
            raise NoRow("a number is missing in this row")
    return words


def is_name(word):
    """Whether the word is a name that a cut can be kept by."""
    return 1 <= len(word) <= MOST_LETTERS and all("a" <= letter <= "z" for letter in word)


def made_cut(action, meant):
    """The cut that a row asks for, of what its words behind the name stand for."""
    match [action, *meant]:
        case ["keep", cut]:
            return cut
        case ["steps", width, height]:
            return cut_by_steps(width, height)
        case ["fewest", width, height]:
            return fewest(width, height)[1]
        case ["beside", one, other]:
            return beside(one, other)
        case ["over", one, other]:
            return over(one, other)
        case ["within", one, number, other]:
            return put_within(one, number, other)
        case ["turn", one]:
            return turned(one)
        case ["mirror", one]:
            return mirrored(one)
        case ["low", one]:
            return lowest(one)


def told_of(action, cut):
    """What a row asks about a kept cut."""
    if action == "show":
        return cut_text(cut)
    if action == "sides":
        return words_of(sides(cut))
    if action == "like":
        return words_of(like_ones(cut) or ("none",))
    if action == "parts":
        return parts_text(parted(cut))
    return str(trees(web_of(touching_of(cut))))


def parts_text(answer):
    """How a cut is parted, and into how many parts if there is more than one."""
    return answer[0] if len(answer) == 1 else words_of([answer[0], len(answer[1])])


def words_of(things):
    """Words and numbers with a blank between."""
    return " ".join([str(thing) for thing in things])
