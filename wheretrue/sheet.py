"""Sheets: conditions with names that can use one another, and what was done with them."""

from wheretrue.comparing import follows, same
from wheretrue.conditions import (
    is_name, names_by_name, names_in, reached, users_by_name, whole_formulas, with_uses,
)
from wheretrue.errors import (
    BadEntry, BadForm, BadName, Circle, InUse, NothingToRedo, NothingToUndo, UnknownName, WhereError,
)
from wheretrue.formulas import check_condition, check_formula, copied
from wheretrue.where import truth_at

# For each of the five deeds, how many elements its entry has.
LENGTHS = {"put": 3, "remove": 2, "rename": 3, "undo": 1, "redo": 1}


class Sheet:
    """Conditions with names; they are changed by deeds, which can be undone and done again."""

    def __init__(self):
        # Both are made anew by each deed and not changed then, so the earlier ones can be kept.
        self._conditions = {}
        self._wholes = {}
        # The conditions and whole formulas before each deed that is in force, and behind each one that is undone.
        self._earlier = []
        self._later = []
        self._entries = []

    def put(self, name, condition):
        """Puts the condition under the name, a new one or one that is there."""
        if not is_name(name):
            raise BadName()
        check_condition(condition)
        used = names_in(condition)
        if not all([other in self for other in used]):
            raise UnknownName()
        conditions = {**self._conditions, name: with_uses(condition, {})}
        if name in reached(used, names_by_name(conditions)):
            raise Circle()
        changed = reached([name], users_by_name(conditions))
        known = {other: self._wholes[other] for other in self._wholes if other not in changed}
        wholes = whole_formulas(conditions, known)
        for other in conditions:
            if other in changed:
                check_formula(wholes[other])
        self._set(conditions, wholes, ("put", name, conditions[name]))

    def remove(self, name):
        """Removes the name, which no condition uses."""
        if self.users(name) != []:
            raise InUse()
        conditions = {other: self._conditions[other] for other in self._conditions if other != name}
        wholes = {other: self._wholes[other] for other in conditions}
        self._set(conditions, wholes, ("remove", name))

    def rename(self, name, other):
        """Gives the name's condition the other name, also where it is used."""
        self._check_there(name)
        if not is_name(other) or other != name and other in self:
            raise BadName()
        found = {name: ("use", other)}
        conditions = {}
        wholes = {}
        for one in self._conditions:
            key = other if one == name else one
            conditions[key] = with_uses(self._conditions[one], found)
            wholes[key] = self._wholes[one]
        self._set(conditions, wholes, ("rename", name, other))

    def _set(self, conditions, wholes, entry):
        """Lets a deed be in force that leads to these conditions and whole formulas."""
        self._earlier.append((self._conditions, self._wholes))
        self._later.clear()
        self._conditions = conditions
        self._wholes = wholes
        self._entries.append(entry)

    def undo(self):
        """Undoes the last deed that is in force."""
        if not self.can_undo:
            raise NothingToUndo()
        self._later.append((self._conditions, self._wholes))
        self._conditions, self._wholes = self._earlier.pop()
        self._entries.append(("undo",))

    def redo(self):
        """Lets the deed be in force again that was undone last."""
        if not self.can_redo:
            raise NothingToRedo()
        self._earlier.append((self._conditions, self._wholes))
        self._conditions, self._wholes = self._later.pop()
        self._entries.append(("redo",))

    def do_all(self, deeds):
        """Does the deeds, told as entries of a journal, one after another, or none of them if one raises an error."""
        earlier = list(self._earlier)
        later = list(self._later)
        entries = list(self._entries)
        conditions = self._conditions
        wholes = self._wholes
        try:
            for deed in deeds:
                self._do(deed)
        except WhereError:
            self._earlier = earlier
            self._later = later
            self._entries = entries
            self._conditions = conditions
            self._wholes = wholes
            raise

    def _do(self, deed):
        word = deed[0]
        if LENGTHS.get(word) != len(deed):
            raise BadForm()
        if word == "put":
            self.put(deed[1], deed[2])
        elif word == "remove":
            self.remove(deed[1])
        elif word == "rename":
            self.rename(deed[1], deed[2])
        elif word == "undo":
            self.undo()
        else:
            self.redo()

    def names(self):
        """The list of the names, in their order."""
        return list(self._conditions)

    def __len__(self):
        return len(self._conditions)

    def __contains__(self, name):
        return isinstance(name, str) and name in self._conditions

    def _check_there(self, name):
        if name not in self:
            raise UnknownName()

    def condition(self, name):
        """The condition with the name."""
        self._check_there(name)
        return with_uses(self._conditions[name], {})

    def whole(self, name):
        """The whole formula of the name."""
        self._check_there(name)
        return copied(self._wholes[name])

    def users(self, name):
        """The list of the names whose conditions use this one directly, in their order."""
        self._check_there(name)
        return users_by_name(self._conditions)[name]

    def true_at(self, name, t):
        """True if the whole formula of the name is true at the number t."""
        self._check_there(name)
        return truth_at(self._wholes[name], t)

    def same(self, name, other):
        """True if the whole formulas of both names are true at the same values of t."""
        self._check_there(name)
        self._check_there(other)
        return same(self._wholes[name], self._wholes[other])

    def follows(self, name, other):
        """True if the other name follows from the name: its whole formula is true wherever that of the name is."""
        self._check_there(name)
        self._check_there(other)
        return follows(self._wholes[name], self._wholes[other])

    @property
    def can_undo(self):
        """True if some deed is in force."""
        return len(self._earlier) > 0

    @property
    def can_redo(self):
        """True if some deed is undone and can be in force again."""
        return len(self._later) > 0

    def journal(self):
        """The list of the deeds that raised no error, as entries, in order."""
        return [_copied_entry(entry) for entry in self._entries]


def _copied_entry(entry):
    if entry[0] == "put":
        return ("put", entry[1], with_uses(entry[2], {}))
    return entry


def replay(journal):
    """The sheet that doing the entries of the journal in order makes; raises BadEntry at the first error."""
    sheet = Sheet()
    for place, entry in enumerate(journal):
        try:
            sheet.do_all([entry])
        except WhereError:
            raise BadEntry(place) from None
    return sheet
