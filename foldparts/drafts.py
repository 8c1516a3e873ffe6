"""The reader of the text form of a fold."""

from foldparts.errors import InvalidText
from foldparts.sums import product_table, read_number, read_sum

_MOST_LETTERS = 8
_MOST_REGISTERS = 3
_MOST_KINDS = 3
_MOST_FIELDS = 2


def read_draft(text):
    """Return the complete draft of a text form. Raise InvalidText(row)."""
    rows = text.split("\n")
    draft = Draft()
    for at, row in enumerate(rows):
        if not draft.take(row):
            raise InvalidText(at)
    if not draft.is_complete:
        raise InvalidText(len(rows))
    return draft


class Draft:
    """What the rows so far tell of a fold.

    Every draft can be completed by further rows, so a row that can be taken is in some text form.
    """

    def __init__(self):
        self.name = None
        self.registers = []
        self.kinds = []
        # For each kind, the list of pairs (number of a register, terms of its new value).
        self.updates = []
        self.final = None
        self.is_complete = False

    def take(self, row):
        """Take the next row and return True, or return False if no text form goes on with it."""
        words = row.split(" ")
        if self.name is None:
            return self._take_name(words)
        if self.final is not None:
            return self._take_end(words)
        if words[:3] == ["", "", "start"]:
            return self._take_start(words[3:])
        if words[:3] == ["", "", "item"]:
            return self._take_kind(words[3:])
        if words[:4] == ["", "", "", ""]:
            return self._take_update(words[4:])
        if words[:3] == ["", "", "result"]:
            return self._take_final(words[3:])
        return False

    def _take_name(self, words):
        if len(words) != 2 or words[0] != "fold" or not _is_name(words[1]):
            return False
        self.name = words[1]
        return True

    def _take_start(self, words):
        if self.kinds != [] or len(self.registers) == _MOST_REGISTERS:
            return False
        if len(words) != 3 or words[1] != "=" or not _is_name(words[0]):
            return False
        value = read_number(words[2])
        if value is None or words[0] in self._register_names():
            return False
        self.registers.append((words[0], value))
        return True

    def _take_kind(self, words):
        if len(self.kinds) == _MOST_KINDS or words == [] or not all([_is_name(word) for word in words]):
            return False
        name, *fields = words
        if name in [kind for kind, others in self.kinds] or len(fields) > _MOST_FIELDS:
            return False
        names = self._register_names() + fields
        if len(set(names)) < len(names):
            return False
        self.kinds.append((name, tuple(fields)))
        self.updates.append([])
        return True

    def _take_update(self, words):
        names = self._register_names()
        if self.kinds == [] or len(words) < 3 or words[0] not in names or words[1] != "=":
            return False
        at = names.index(words[0])
        if any([at <= earlier for earlier, terms in self.updates[-1]]):
            return False
        terms = read_sum(words[2:], product_table(names, self.kinds[-1][1]))
        # A register that keeps its value has no row.
        if terms is None or words[2:] == [words[0]]:
            return False
        self.updates[-1].append((at, terms))
        return True

    def _take_final(self, words):
        if self.kinds == []:
            return False
        self.final = read_sum(words, product_table(self._register_names(), ()))
        return self.final is not None

    def _take_end(self, words):
        if self.is_complete or words != ["end"]:
            return False
        self.is_complete = True
        return True

    def _register_names(self):
        return [name for name, value in self.registers]


def _is_name(text):
    """Return True if the text is a name, otherwise False."""
    return len(text) <= _MOST_LETTERS and text.isascii() and text.isalpha() and text.islower()
