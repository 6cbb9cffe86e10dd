"""Programs as objects."""

from firstfault.changes import with_step, with_step_ahead, without_step
from firstfault.keys import all_keys, has_key, step_at
from firstfault.programchecker import lets_program
from firstfault.programreadings import program_read
from firstfault.programtexts import program_text


class Program:
    """A program that never changes."""

    def __init__(self, items, steps, calls=()):
        form = (items, calls, steps)
        lets_program(form)
        self._form = form
        self._key_rows = all_keys(form)

    @classmethod
    def parsed(cls, text):
        """Return the Program that a string writes; the errors of program_read, then those of lets_program."""
        items, calls, steps = program_read(text)
        return cls(items, steps, calls)

    @property
    def item_rows(self):
        """The items."""
        return self._form[0]

    @property
    def call_rows(self):
        """The calls."""
        return self._form[1]

    @property
    def step_rows(self):
        """The steps of the program itself."""
        return self._form[2]

    @property
    def form(self):
        """The program as a tuple."""
        return self._form

    def __getitem__(self, key):
        """Return the step with this key; UnknownKey for any other value."""
        return step_at(self._form, key)

    def __contains__(self, key):
        """Whether any value is the key of a step."""
        return has_key(self._form, key)

    def __len__(self):
        return len(self._key_rows)

    def __iter__(self):
        return iter(self._key_rows)

    def __eq__(self, other):
        return isinstance(other, Program) and self._form == other._form

    def __str__(self):
        return str(program_text(self._form))

    def turned(self, key, step):
        """Return the Program with step in place of the one with this key."""
        return program_of(with_step(self._form, key, step))

    def less(self, key):
        """Return the Program without the step with this key."""
        return program_of(without_step(self._form, key))

    def ahead(self, place, step):
        """Return the Program with step put ahead of the place."""
        return program_of(with_step_ahead(self._form, place, step))


def program_of(form):
    """Return the Program with this form."""
    items, calls, steps = form
    return Program(items, steps, calls)
