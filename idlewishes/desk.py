"""A desk: lines lead a watch, and are answered."""

from idlewishes.errors import TooGreat, WishError
from idlewishes.idle import idle_parts
from idlewishes.keeping import keeps
from idlewishes.monitors import shortest_row
from idlewishes.shortest import shortest_failing
from idlewishes.texts import is_figure, line_of, machine_text, read_machine, read_wish, spaced, wish_text
from idlewishes.watch import Watch

BAD_LINE = "bad line"
NONE = "none"


def _undo(watch):
    return _done(watch.undo())


def _redo(watch):
    return _done(watch.redo())


def _done(was_done):
    """The answer when something was taken back, or done again, or nothing was."""
    if was_done:
        return "done"
    return "nothing"


def _verdict(watch):
    return watch.tells()


def _row(watch):
    if watch.row == ():
        return NONE
    return spaced(watch.row)


def _choices(watch):
    return spaced(watch.choices())


def _machine(watch):
    return machine_text(watch.model).replace("\n", " / ")


def _wish(watch):
    return wish_text(watch.asked)


def _keeps(watch):
    if keeps(watch.model, watch.asked):
        return "yes"
    return "no"


def _idle(watch):
    idle = idle_parts(watch.model, watch.asked)
    if idle == ():
        return NONE
    return " ".join(["." + ".".join([str(place) for place in path]) for path in idle])


def _fails(watch):
    run = shortest_failing(watch.model, watch.asked)
    if run is None:
        return NONE
    ahead, ring = run
    return str(len(ahead) + len(ring))


def _step(watch, word):
    if not is_figure(word):
        return BAD_LINE
    return watch.step(int(word))


def _shortest(watch, word):
    row = shortest_row(watch.model, watch.asked, word)
    if row is None:
        return NONE
    return line_of("row", row)


# What answers a line of one word, and a line of two words by the second one.
PLAIN = {
    "undo": _undo,
    "redo": _redo,
    "verdict": _verdict,
    "row": _row,
    "choices": _choices,
    "machine": _machine,
    "wish": _wish,
    "keeps": _keeps,
    "idle": _idle,
    "fails": _fails,
}
WITH_WORD = {
    "step": _step,
    "shortest": _shortest,
}


def _answer(watch, words):
    """The answer to the words of a line."""
    if len(words) == 1 and words[0] in PLAIN:
        action = PLAIN[words[0]]
        return action(watch)
    if len(words) == 2 and words[0] in WITH_WORD:
        action = WITH_WORD[words[0]]
        return action(watch, words[1])
    return BAD_LINE


class Desk:
    """A desk that leads a watch over the machine and the wish of two texts."""

    def __init__(self, text, wish):
        machine = read_machine(text)
        self._watch = Watch(machine, read_wish(wish))

    @property
    def watch(self):
        """The watch itself."""
        return self._watch

    def say(self, line):
        """The answer to a line."""
        if not isinstance(line, str):
            return BAD_LINE
        try:
            return _answer(self._watch, line.split(" "))
        except (WishError, TooGreat):
            return BAD_LINE
