"""Scripts: lines that a new desk is told one behind another."""

from backwardrow.desk import Desk
from backwardrow.errors import BadLine, BadText, RowError


def played(lines):
    """The answers of a new desk to these lines."""
    if not isinstance(lines, (list, tuple)) or not all([isinstance(line, str) for line in lines]):
        raise BadText(0, 0)
    desk = Desk()
    answers = []
    for number, line in enumerate(lines):
        try:
            answers.append(desk.tell(line))
        except RowError as error:
            raise BadLine(number, error) from error
    return tuple(answers)
