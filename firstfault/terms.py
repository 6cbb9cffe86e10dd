"""Numbers and conditions as objects."""

from firstfault.conditions import lets_condition, lets_count, right_parts
from firstfault.kinds import is_integer
from firstfault.programtexts import expression_text
from firstfault.values import holds_in, value_in


class Count:
    """A number by form, which never changes."""

    def __init__(self, expression):
        self._part_rows = right_parts("number", None, expression)
        self._form = expression

    @staticmethod
    def item(name):
        """Return the Count of an item; UnfitPart for any value that is no name."""
        return Count(("item", name))

    @property
    def form(self):
        """The number as an expression."""
        return self._form

    def __len__(self):
        return len(self._part_rows)

    def __eq__(self, other):
        return isinstance(other, Count) and self._form == other._form

    def __str__(self):
        return str(expression_text(self._form))

    def __call__(self, items, state):
        """Return the value in a state; UnfitPart if it is no number for the items."""
        lets_count(items, self._form)
        return value_in(items, state, self._form)

    def __add__(self, other):
        if not is_operand(other):
            return NotImplemented
        return Count(("+", self._form, form_of(other)))

    def __sub__(self, other):
        if not is_operand(other):
            return NotImplemented
        return Count(("-", self._form, form_of(other)))

    def __mul__(self, other):
        if not is_operand(other):
            return NotImplemented
        return Count(("*", self._form, form_of(other)))

    def __radd__(self, other):
        if not is_operand(other):
            return NotImplemented
        return Count(("+", form_of(other), self._form))

    def __rsub__(self, other):
        if not is_operand(other):
            return NotImplemented
        return Count(("-", form_of(other), self._form))

    def __rmul__(self, other):
        if not is_operand(other):
            return NotImplemented
        return Count(("*", form_of(other), self._form))

    def parts(self):
        """Yield the parts, in order."""
        for path, part in self._part_rows:
            yield part

    def less(self, other):
        """Return the Rule that this is less than the other."""
        return Rule(("<", self._form, form_of(other)))

    def equals(self, other):
        """Return the Rule that this is the same as the other."""
        return Rule(("=", self._form, form_of(other)))

    def said(self):
        """Return the step that says this."""
        return "say", self._form

    def set_to(self, name):
        """Return the step that sets the item with this name to this."""
        return "set", name, self._form

    def times(self, *steps):
        """Return the step that does the steps this often."""
        return "repeat", self._form, steps


class Rule:
    """A condition by form, which never changes."""

    def __init__(self, expression):
        self._part_rows = right_parts("condition", None, expression)
        self._form = expression

    @staticmethod
    def among(states):
        """Return the Rule that the state is one of these; UnfitPart for any value that is no set of states by form."""
        return Rule(("in", states))

    @property
    def form(self):
        """The condition as an expression."""
        return self._form

    def __len__(self):
        return len(self._part_rows)

    def __eq__(self, other):
        return isinstance(other, Rule) and self._form == other._form

    def __str__(self):
        return str(expression_text(self._form))

    def __call__(self, items, state):
        """Whether it is true in a state; UnfitPart if it is no condition for the items."""
        lets_condition(items, self._form)
        return holds_in(items, state, self._form)

    def __and__(self, other):
        if not isinstance(other, Rule):
            return NotImplemented
        return Rule(("and", self._form, other._form))

    def __or__(self, other):
        if not isinstance(other, Rule):
            return NotImplemented
        return Rule(("or", self._form, other._form))

    def __invert__(self):
        return Rule(("not", self._form))

    def parts(self):
        """Yield the parts, in order."""
        for path, part in self._part_rows:
            yield part

    def check(self, word):
        """Return the check with this word and this condition."""
        return "check", word, self._form

    def choose(self, steps, others):
        """Return the step that does the steps if this is true, otherwise the others."""
        return "if", self._form, steps, others


def is_operand(thing):
    """Whether any value may stand beside a Count, on either side of a sign."""
    return is_integer(thing) or isinstance(thing, Count)


def form_of(thing):
    """Return the form of a Count; any other value itself."""
    return thing._form if isinstance(thing, Count) else thing
