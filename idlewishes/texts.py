"""Texts of machines, wishes and runs."""

from idlewishes.errors import BadText
from idlewishes.machines import MOST_STANDINGS, MOST_TOGETHER, need_machine, need_run
from idlewishes.wishes import MOST_PARTS, WANTS, need_wish, walked

FIGURES = "0123456789"


def machine_text(machine):
    """The text of a machine."""
    starts, ways, marks = need_machine(machine)
    lines = [line_of("starts", starts)]
    for there, after in zip(marks, ways):
        lines += [line_of("marks", there), line_of("ways", after)]
    return "\n".join(lines)


def wish_text(wish):
    """The text of a wish."""
    need_wish(wish)
    words = []
    for _, part in walked(wish):
        words.append(part[0])
        if part[0] == "mark":
            words.append(str(part[1]))
    return " ".join(words)


def run_text(machine, run):
    """The text of a run of the machine."""
    need_machine(machine)
    ahead, ring = need_run(machine, run)
    return line_of("ahead", ahead) + "\n" + line_of("ring", ring)


def read_machine(text):
    """The machine of which this is the text."""
    lines = _lines(text)
    starts = _figures(lines, 0, "starts", MOST_STANDINGS)
    ways = []
    marks = []
    at = 1
    # One pair of lines has to come; more can.
    while marks == [] or at < len(lines):
        if len(marks) == MOST_STANDINGS:
            raise BadText(at, 0)
        marks.append(_figures(lines, at, "marks", MOST_STANDINGS))
        ways.append(_figures(lines, at + 1, "ways", MOST_STANDINGS))
        at += 2
    return need_machine((starts, tuple(ways), tuple(marks)))


def read_wish(text):
    """The wish of which this is the text."""
    lines = _lines(text)
    _need_parts(lines[0])
    _need_no_more(lines, 1)
    return need_wish(_wish_of(lines[0]))


def read_run(machine, text):
    """The run of the machine of which this is the text."""
    need_machine(machine)
    lines = _lines(text)
    ahead = _figures(lines, 0, "ahead", MOST_TOGETHER)
    ring = _figures(lines, 1, "ring", MOST_TOGETHER)
    _need_no_more(lines, 2)
    return need_run(machine, (ahead, ring))


def is_figure(word):
    """Whether a word is one figure."""
    return len(word) == 1 and word in FIGURES


def spaced(numbers):
    """The numbers with one space between."""
    return " ".join([str(number) for number in numbers])


def line_of(word, numbers):
    """The line of a word and the numbers behind it."""
    return " ".join([word] + [str(number) for number in numbers])


def _lines(text):
    """The list of the lines of a text, each the list of its words; BadText for any value that is no string."""
    if not isinstance(text, str):
        raise BadText(None, None)
    return [line.split(" ") for line in text.split("\n")]


def _figures(lines, at, word, most):
    """The tuple of the figures behind a word in the line of a number; BadText where it is otherwise."""
    if at == len(lines) or lines[at][0] != word:
        raise BadText(at, 0)
    for number, figure in enumerate(lines[at][1:], start=1):
        if number > most or not is_figure(figure):
            raise BadText(at, number)
    return tuple([int(figure) for figure in lines[at][1:]])


def _need_no_more(lines, most):
    """BadText if there are more lines."""
    if len(lines) > most:
        raise BadText(most, 0)


def _need_parts(words):
    """BadText if these words of the line 0 do not have the form of those of a wish."""
    parts = 0
    # What has to come, the next thing last: True for a part, False for the figure of a mark.
    coming = [True]
    for number, word in enumerate(words):
        if coming == []:
            raise BadText(0, number)
        if not coming.pop():
            if not is_figure(word):
                raise BadText(0, number)
        else:
            parts += 1
            if parts > MOST_PARTS or word not in WANTS:
                raise BadText(0, number)
            coming += [word != "mark"] * WANTS[word]
    if coming != []:
        raise BadText(0, len(words))


def _wish_of(words):
    """The wish of words that have its form."""
    found = []
    # Backwards, what belongs to a word is known when it comes.
    for word in reversed(words):
        if is_figure(word):
            found.append(int(word))
        else:
            wants = [found.pop() for _ in range(WANTS[word])]
            found.append((word, *wants))
    return found[0]
