"""Directives in source lines: the options that they tell, and sources without them."""

from promptyard.errors import BadText
from promptyard.flags import is_flag
from promptyard.lines import lines_of
from promptyard.stages import BLANKS, is_blank, words_of

MARK = "doctest:"


def directive_of(line):
    """Return the directive of a source line, the empty text without one."""
    # As no quotation mark stands behind it, a directive begins behind the last one.
    at = line.find("#", max(line.rfind("'"), line.rfind('"')) + 1)
    while at >= 0 and not line[at + 1:].lstrip(BLANKS).startswith(MARK):
        at = line.find("#", at + 1)
    return "" if at < 0 else line[at:]


def directive_words(line):
    """Return the words of the directive of a source line, none without one."""
    return words_of(directive_of(line).partition(":")[2].replace(",", " "))


def is_option_word(word):
    """Tell whether a word is a sign that turns on or off, and a flag."""
    return word[:1] in ("+", "-") and is_flag(word[1:])


def options_of(source, number):
    """Return the options that the directives of a source tell; its first line has a number."""
    options = {}
    for line in lines_of(source):
        for word in directive_words(line):
            if not is_option_word(word):
                raise BadText(number, "option", word)
            options[word[1:]] = word[0] == "+"
    return options


def bare_of(source):
    """Return a source without directives, and without blanks at the ends of its lines."""
    return "".join([bare_line(line) + "\n" for line in lines_of(source)])


def bare_line(line):
    """Return a source line without its directive, and without blanks at its end."""
    return line.removesuffix(directive_of(line)).rstrip(BLANKS)


def is_remark(source):
    """Tell whether each line of a source is blank or begins, behind blanks, with a #."""
    return all([is_blank(line) or line.lstrip(BLANKS).startswith("#") for line in lines_of(source)])
