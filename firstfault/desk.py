"""A desk, which answers rows by strings."""

from firstfault.answers import PLAIN_ANSWERS, answer_about
from firstfault.deskrows import request_in
from firstfault.errors import InvalidRow
from firstfault.services import Service


class Desk:
    """A desk has a service, at first none."""

    def __init__(self):
        self._service = None
        self._rows_done = 0

    def say(self, row):
        """Return the answer to a row; InvalidRow if it is not possible, then the errors of the service."""
        self._rows_done = self._rows_done + 1
        request = request_in(row)
        if request is None or self._service is None and request[0] != "service":
            raise InvalidRow(row)
        word, thing = request
        if word == "service":
            self._service = Service(thing)
            return "ok"
        if thing is not None:
            return answer_about(self._service, word, thing)
        action = PLAIN_ANSWERS[word]
        return action(self._service)

    def counts(self):
        """Return how many calls of say were started, and how many are finished."""
        # Each one is finished, be it by an error, before another one can be started.
        return self._rows_done, self._rows_done
