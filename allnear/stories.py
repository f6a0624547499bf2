"""Stories: lines told to a new desk, one behind another."""

from allnear.checks import is_list
from allnear.desk import Desk
from allnear.errors import BadDesk, BadLine, NearError


def play(lines):
    """The answers of a new desk to these lines."""
    answers, _ = answered(lines)
    return answers


def told(lines):
    """The desk behind these lines."""
    _, desk = answered(lines)
    return desk


def answered(lines):
    """The answers of a new desk to these lines, and the desk."""
    if not is_list(lines) or not all([isinstance(line, str) for line in lines]):
        raise BadDesk("lines")
    desk = Desk()
    answers = []
    for at, line in enumerate(lines):
        try:
            said = desk.tell(line)
        except NearError as wrong:
            raise BadLine(at, wrong) from None
        answers.append(said)
    return tuple(answers), desk
