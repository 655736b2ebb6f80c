"""What the stages of a comparison make of texts."""

BLANKS = " \t"
MARK = "<BLANKLINE>"
DOTS = "..."

# The only wants that True and False stand for, and what they let by.
TRUTHS = {"1\n": "True\n", "0\n": "False\n"}


def is_blank(line):
    """Tell whether a line, without its line feed, has nothing but blanks."""
    return not line.strip(BLANKS)


def is_mark(line):
    """Tell whether a line, without its line feed, stands for a blank one."""
    return line.startswith(MARK) and is_blank(line[len(MARK):])


def marks_emptied(want):
    """Return want with those of its lines emptied that stand for blank ones."""
    return "\n".join(["" if is_mark(line) else line for line in want.split("\n")])


def blanks_emptied(got):
    """Return got with its blank lines emptied."""
    return "\n".join(["" if is_blank(line) else line for line in got.split("\n")])


def words_of(text):
    """Return the words of a text: the stretches without blanks and line feeds."""
    spaced = text.replace("\t", " ").replace("\n", " ")
    return [word for word in spaced.split(" ") if word]


def words_joined(text):
    """Return the words of a text with one space between them."""
    return " ".join(words_of(text))


def has_pieces(pieces, got):
    """Tell whether got has the pieces in order, the first and the last one at its ends."""
    if not got.startswith(pieces[0]) or not got.endswith(pieces[-1]):
        return False
    at = len(pieces[0])
    end = len(got) - len(pieces[-1])
    for piece in pieces[1:-1]:
        at = got.find(piece, at, end)
        if at < 0:
            return False
        at = at + len(piece)
    return at <= end
