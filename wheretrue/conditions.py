"""Conditions: formulas in which ("use", name) can stand for the condition with this name.

Conditions and whole formulas by their names are dicts here.
"""

from wheretrue.formulas import copied

LETTERS = "abcdefghijklmnopqrstuvwxyz"
DIGITS = "0123456789"
MOST_CHARACTERS = 12


def is_name(value):
    """True if the value, which may be any, is a name."""
    if not isinstance(value, str) or not 1 <= len(value) <= MOST_CHARACTERS or value[0] not in LETTERS:
        return False
    return all([character in LETTERS or character in DIGITS for character in value])


def names_in(condition):
    """What the condition uses, from left to right, each time that it stands there."""
    word = condition[0]
    if word == "use":
        return [condition[1]]
    found = []
    if word not in ("sign", "some"):
        for part in condition[1:]:
            found.extend(names_in(part))
    return found


def with_uses(condition, found):
    """The condition, made of new lists, with what is found under a name instead of its uses; the others stay."""
    word = condition[0]
    if word == "use":
        return with_uses(found[condition[1]], {}) if condition[1] in found else condition
    if word in ("sign", "some"):
        return copied(condition)
    return (word, *[with_uses(part, found) for part in condition[1:]])


def names_by_name(conditions):
    """For each name the names that its condition uses."""
    return {name: names_in(conditions[name]) for name in conditions}


def users_by_name(conditions):
    """For each name the names whose conditions use it, in order, each once."""
    users = {name: [] for name in conditions}
    for user in conditions:
        for name in names_in(conditions[user]):
            if user not in users[name][-1:]:
                users[name].append(user)
    return users


def reached(names, links):
    """A dict that has as keys these names and all to which they lead: links tells for each name to which others."""
    found = {}
    waiting = list(names)
    while waiting != []:
        name = waiting.pop()
        if name not in found:
            found[name] = True
            waiting.extend(links[name])
    return found


def whole_formulas(conditions, known):
    """The whole formulas of all names, some of which are known; no name is used by itself."""
    found = dict(known)
    # A name waits until all names that it uses are done: a chain of names may be too long for calls within calls.
    waiting = list(conditions)
    while waiting != []:
        name = waiting[-1]
        missing = [other for other in names_in(conditions[name]) if other not in found]
        if name in found or missing == []:
            waiting.pop()
            if name not in found:
                found[name] = with_uses(conditions[name], found)
        else:
            waiting.extend(missing)
    return found
