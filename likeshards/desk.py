"""The desk: keeps cuttings by names, and answers to rows of text."""

from likeshards.bends import bent_field, bent_pieces
from likeshards.errors import NoField, NoName, NoRow
from likeshards.fans import fan_cut
from likeshards.finer import cut_at, laid_over
from likeshards.meets import counts_of
from likeshards.moves import freedom_of, moved
from likeshards.papers import frame_of, look_paper, must_of
from likeshards.pieces import fault_of, look_cutting
from likeshards.telling import told_many
from likeshards.texts import frac_in, number_in, read_cutting, show_cutting, show_frac, show_spot, spot_in
from likeshards.walks import all_walks

LONGEST_NAME = 8

# What stands behind the first word of each row; by an old name a cutting must stand, by a new one it need not.
ROWS = {
    "lay": "new",
    "fault": "",
    "show": "old",
    "counts": "old",
    "must": "old",
    "many": "old number",
    "walk": "old number number number number",
    "free": "old spot",
    "cut": "old number spot",
    "move": "old spot spot",
    "over": "new old old",
    "bend": "new old part part part part part part",
    "like": "old number number",
    "undo": "old",
}
# The rows behind which a cutting's text stands.
WITH_TEXT = ("lay", "fault")


def name_in(word):
    """A name that is written so; None where none is."""
    if 1 <= len(word) <= LONGEST_NAME and word.isascii() and word.isalpha() and word.islower():
        return word
    return None


def value_in(kind, word):
    """What of a kind is written so; None where nothing is."""
    if kind == "number":
        return number_in(word)
    if kind == "spot":
        return spot_in(word)
    if kind == "part":
        return frac_in(word)
    return name_in(word)


def values_in(kinds, words):
    """A value for each kind; None where the words are not so many, or one of them isn't so written."""
    if len(kinds) != len(words):
        return None
    values = [value_in(kind, word) for kind, word in zip(kinds, words)]
    if any(value is None for value in values):
        return None
    return values


def read_saying(text):
    """The first word, the kinds and the values of what stands behind it in its row, and the rows behind; else NoRow."""
    if not isinstance(text, str):
        raise NoRow("a text is asked for")
    row, feed, behind = text.partition("\n")
    words = row.split(" ")
    word = words[0]
    if word not in ROWS:
        raise NoRow("no row begins so")
    kinds = ROWS[word].split()
    values = values_in(kinds, words[1:])
    if values is None:
        raise NoRow("something else is asked for behind the first word")
    if (feed == "\n") != (word in WITH_TEXT):
        raise NoRow("there are rows behind, where none are asked for, or none, where some are")
    return (word, kinds, values, behind)


def in_row(things):
    """Words and numbers in a row, parted by single blanks."""
    return " ".join(str(thing) for thing in things)


def told_fault(found, given):
    """The fault of a field and pieces that were read."""
    field, pieces = given[0]
    fault = fault_of(field, pieces)
    if fault is None:
        return "none"
    if fault[0] == "left":
        return in_row(["left", show_frac(fault[1])])
    return in_row(fault)


def shown(found, given):
    """The text of a cutting."""
    field, pieces = found[0]
    return show_cutting(field, pieces)


def counted(found, given):
    """How many corners, bits and pieces a cutting has."""
    field, pieces = found[0]
    return in_row(counts_of(field, pieces))


def told_must(found, given):
    """The number that divides that of like pieces."""
    return in_row([must_of(found[0][0])[0]])


def told_number(found, given):
    """What is told of a number of like pieces."""
    told = told_many(found[0][0], given[0])
    if told[0] == "hub":
        return in_row(["hub", show_spot(told[1]), *told[2]])
    if told[0] == "never":
        return in_row(["never", *told[1]])
    return in_row(told)


def walked(found, given):
    """The pieces of the first walk by a paper's frame and prime that ends in a full piece."""
    field, pieces = found[0]
    paper = tuple(given)
    look_paper(field, paper)
    for walk in all_walks(field, pieces, frame_of(field, paper), paper[3]):
        # But in a full piece each step has a way out.
        if walk[-1][2] is None:
            return in_row([step[0] for step in walk])
    return "none"


def freed(found, given):
    """The word for the freedom of a corner."""
    field, pieces = found[0]
    return freedom_of(field, pieces, given[0])[0]


# Each of these is told the cuttings of the row's old names and its other values, or the cutting that was read.
ANSWERS = {
    "fault": told_fault,
    "show": shown,
    "counts": counted,
    "must": told_must,
    "many": told_number,
    "walk": walked,
    "free": freed,
}


def laid(found, given):
    """The cutting that was read."""
    field, pieces = given[0]
    look_cutting(field, pieces)
    return (field, pieces)


def cut_further(found, given):
    """A cutting with one piece cut at a spot."""
    field, pieces = found[0]
    return (field, cut_at(field, pieces, *given))


def with_move(found, given):
    """A cutting with a corner moved."""
    field, pieces = found[0]
    return (field, moved(field, pieces, *given))


def both_over(found, given):
    """Two cuttings of one field laid over one another."""
    (field, pieces), (other, others) = found
    if field != other:
        raise NoField("two cuttings of one field, its corners begun alike, are asked for")
    return (field, laid_over(field, pieces, others))


def all_bent(found, given):
    """A cutting bent."""
    field, pieces = found[0]
    bend = tuple(given)
    return (bent_field(bend, field), bent_pieces(bend, pieces))


def cut_alike(found, given):
    """The field of a cutting cut in like pieces by a fan."""
    field = found[0][0]
    return (field, fan_cut(field, *given))


# So these; what they tell stands by the first name of the row.
DEEDS = {
    "lay": laid,
    "cut": cut_further,
    "move": with_move,
    "over": both_over,
    "bend": all_bent,
    "like": cut_alike,
}


class Desk:
    """Cuttings kept by names, and what each was ahead of its deeds."""

    def __init__(self):
        # By each name all that stood by it, the last one standing now; none where it was laid and taken back.
        self.kept = {}

    def standing(self, name):
        """The cutting that stands by a name; else NoName."""
        if not self.kept.get(name):
            raise NoName(name)
        return self.kept[name][-1]

    def say(self, text):
        """The answer to a text; else NoRow, NoName, NoText, or what is refused of what it asks for."""
        word, kinds, values, behind = read_saying(text)
        found = [self.standing(value) for kind, value in zip(kinds, values) if kind == "old"]
        given = [value for kind, value in zip(kinds, values) if kind not in ("old", "new")]
        if word in WITH_TEXT:
            given.append(read_cutting(behind))
        if word in ANSWERS:
            answer = ANSWERS[word]
            return answer(found, given)
        if word in DEEDS:
            deed = DEEDS[word]
            cutting = deed(found, given)
            self.kept.setdefault(values[0], []).append(cutting)
        else:
            self.kept[values[0]].pop()
        return "ok"
