"""Explaining how own entries became what they are (chapter 18)."""

from folderkin.entries import alike, copy_name
from folderkin.values import is_index
from folderkin.vectors import compare


def number_of(history, index):
    """Returns the number of the record of a row."""
    device = history[index][0]
    return 1 + len([row for row in history[:index] if row[0] == device])


def made_by(history, maker):
    """Returns the index of the edit with a maker, or -1."""
    device, number = maker
    rows = [index for index, row in enumerate(history) if row[0] == device]
    if not 1 <= number <= len(rows):
        return -1
    # The rows of a device are those of its records, in order.
    index = rows[number - 1]
    return index if history[index][3].maker == maker else -1


def story(history, entry):
    """Returns the story of an entry, the list of the indexes of its edits."""
    found = []
    while entry is not None:
        index = made_by(history, entry.maker)
        if index == -1:
            return found
        found.append(index)
        entry = history[index][2]
    return found


def judge_story(history, entry, paper):
    """Returns True if a judge takes any value as the story of an entry, otherwise False."""
    if not isinstance(paper, list):
        return False
    turn = entry
    for index in paper:
        if turn is None or not is_index(index, len(history)) or index != made_by(history, turn.maker):
            return False
        _, _, before, after = history[index]
        if not alike(after, turn):
            return False
        turn = before
    return turn is None


def carriers(history, maker):
    """Returns the list of the pairs (device, index) of the devices that had an entry with a maker as an own entry."""
    firsts = {}
    for index, row in enumerate(history):
        if row[3].maker == maker and row[0] not in firsts:
            firsts[row[0]] = index
    return [(device, firsts[device]) for device in firsts]


def gone(history, index):
    """Returns what came after the new entry of a row, a pair of a word and an index."""
    device, _, _, entry = history[index]
    later = _next_row(history, index)
    if later == -1:
        return "stays", -1
    after = history[later][3]
    if alike(after, entry):
        return "alike", later
    if after.maker == (device, number_of(history, later)):
        return "edit", later
    if entry.deleted:
        return "removed", later
    if compare(entry.vector, after.vector) == "less":
        return "below", later
    copies = [at for at in range(later) if _has_own(history[at], device, copy_name(entry))]
    return ("copy", copies[-1]) if copies else ("known", later)


def _next_row(history, index):
    """Returns the index of the next row of the same device and name, or -1."""
    device, _, _, entry = history[index]
    for at in range(index + 1, len(history)):
        if _has_own(history[at], device, entry.name):
            return at
    return -1


def _has_own(row, device, name):
    return row[0] == device and row[3].name == name
