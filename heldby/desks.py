"""Desks: sessions that answer lines."""

from heldby.actions import answer_of
from heldby.commands import command_of
from heldby.errors import CommandError


class Desk:
    """Answers lines by a session."""

    def __init__(self, session):
        self._session = session

    @property
    def session(self):
        """The session."""
        return self._session

    def __call__(self, line):
        """The same as run."""
        return self.run(line)

    def run(self, line):
        """The answer to a line."""
        command = command_of(line)
        if command is None:
            raise CommandError(line)
        is_trial, word, told = command
        if not is_trial:
            return answer_of(self._session, word, told)
        with self._session.trial():
            return answer_of(self._session, word, told)


def answers(session, lines):
    """The answers of a new desk to a list of lines; if one raises an error, the session is as it was."""
    desk = Desk(session)
    return session.all_or_none(lambda: [desk.run(line) for line in lines])
