"""A desk: rows are kept by names, and asked, by lines that are told; what was done last can be taken back."""

from backwardrow.desk_lines import is_name, line_told
from backwardrow.errors import Misfit, NoName, Nothing, TooMany, Twice
from backwardrow.folds import TwoWays
from backwardrow.joined import Both, Either, Not, Renamed
from backwardrow.pictures import picture
from backwardrow.runs import due_tick, said, seat, told, told_words
from backwardrow.slants import OneWay
from backwardrow.sped import Sped
from backwardrow.spoken import row_of
from backwardrow.tables import Table
from backwardrow.unlike import Parted, unlike
from backwardrow.words import word_text

MOST_LINES = 200
NONE = "-"


# Each of these functions makes a row of what a line tells behind its name, with rows in the place of names.


def made_table(parts):
    """A table."""
    ways, letters, worths, rules, yes = parts[0]
    return Table(ways, letters, worths, rules, yes)


def made_saying(parts):
    """The row to which a saying is led."""
    return row_of(parts[1], parts[0])


def made_oneway(parts):
    """A row of one way."""
    return OneWay(parts[0])


def made_twoways(parts):
    """A row of two ways."""
    return TwoWays(parts[0])


def made_not(parts):
    """The row that says yes when this one does not."""
    return Not(parts[0])


def made_both(parts):
    """The row that says yes when both do."""
    return Both(parts[0], parts[1])


def made_either(parts):
    """The row that says yes when one of them does."""
    return Either(parts[0], parts[1])


def made_renamed(parts):
    """The row with other letters."""
    return Renamed(parts[0], parts[1])


def made_sped(parts):
    """The row sped."""
    return Sped(parts[0], parts[1])


# Each of these functions answers a line that is not kept.


def told_answer(parts):
    """Whether a row tells a word yes."""
    return yes_or_no(told(parts[0], parts[1]))


def said_answer(parts):
    """Whether the seat says yes at a tick."""
    return yes_or_no(said(parts[0], parts[2], parts[1]))


def due_answer(parts):
    """The seat and the due tick."""
    row, many = parts
    return f"{seat(row, many)} {due_tick(row, many)}"


def words_answer(parts):
    """The words that a row tells yes."""
    return in_line([word_text(word) for word in told_words(parts[0], parts[1])])


def unlike_answer(parts):
    """The least word at which two rows part."""
    paper = unlike(parts[0], parts[1], parts[2])
    return word_text(paper.letters) if isinstance(paper, Parted) else NONE


def picture_answer(parts):
    """The strings of a picture."""
    return in_line(list(picture(parts[0], parts[2], parts[1])))


def text_answer(parts):
    """The lines of the text of a table."""
    if not isinstance(parts[0], Table):
        raise Misfit("table")
    return in_line(str(parts[0]).split("\n"))


def yes_or_no(so):
    """Whether something is so, as an answer."""
    return "yes" if so else "no"


def in_line(strings):
    """Lines, words or strings of a picture in one line."""
    return " / ".join(strings) if len(strings) > 0 else NONE


MAKERS = {
    "table": made_table, "saying": made_saying, "oneway": made_oneway, "twoways": made_twoways, "not": made_not,
    "both": made_both, "either": made_either, "renamed": made_renamed, "sped": made_sped,
}
ANSWERS = {
    "told": told_answer, "said": said_answer, "due": due_answer, "words": words_answer, "unlike": unlike_answer,
    "picture": picture_answer, "text": text_answer,
}


class Desk:
    """Rows by their names, and the log of the lines that made and dropped them."""

    def __init__(self):
        self.log = ()
        self._rows = {}
        # Each step is a line, a name, and the row that is kept by it ahead of the line and behind it, None for none.
        self._steps = []
        self._taken = []

    def row(self, name):
        """The row that is kept by a name."""
        if not is_name(name) or name not in self._rows:
            raise NoName(name)
        return self._rows[name]

    def tell(self, line):
        """The answer to a line."""
        word, parts = line_told(line)
        if word in MAKERS or word == "drop":
            return self._keep(line, word, parts)
        if word == "undo":
            return self._undo()
        if word == "again":
            return self._again()
        if word == "log":
            return in_line(list(self.log))
        if word == "names":
            return " ".join(sorted(list(self._rows))) if len(self._rows) > 0 else NONE
        answer = ANSWERS[word]
        return answer(self._with_rows(parts))

    def _with_rows(self, parts):
        """What a line tells, with rows in the place of names."""
        return [self.row(part) if isinstance(part, str) else part for part in parts]

    def _keep(self, line, word, parts):
        """Do what a line tells that is kept."""
        name = parts[0]
        if len(self.log) >= MOST_LINES:
            raise TooMany("lines", MOST_LINES)
        if word == "drop":
            step = (line, name, self.row(name), None)
        else:
            if name in self._rows:
                raise Twice(name)
            maker = MAKERS[word]
            step = (line, name, None, maker(self._with_rows(parts[1:])))
        self._taken = []
        return self._do(step)

    def _do(self, step):
        """Do a step, behind all others."""
        line, name, _, row = step
        self._put(name, row)
        self._steps.append(step)
        self.log = self.log + (line,)
        return name if row is None else f"ways {row.ways} letters {row.letters}"

    def _undo(self):
        """Take the last step back."""
        if len(self._steps) == 0:
            raise Nothing()
        step = self._steps.pop()
        line, name, row, _ = step
        self._put(name, row)
        self._taken.append(step)
        self.log = self.log[:-1]
        return line

    def _again(self):
        """Do the step again that was taken back last."""
        if len(self._taken) == 0:
            raise Nothing()
        return self._do(self._taken.pop())

    def _put(self, name, row):
        """Keep a row by a name, or none."""
        if row is None:
            del self._rows[name]
        else:
            self._rows[name] = row
