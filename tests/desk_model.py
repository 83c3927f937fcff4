"""A plain model of desks to compare them with, and what a desk shows of itself."""

import copy

from clashproved.desks import Desk

MOST_RULES, MOST_CHANGES = 30, 100


class Refused(Exception):
    """The model tells the name of the error that a desk raises."""


class Model:
    """The rules, levels and changes of a desk, each change with a copy of what was ahead of it."""

    def __init__(self):
        self.rules = []
        self.levels = []
        self.changes = []
        self.next_number = 0

    def keep(self):
        if len(self.changes) == MOST_CHANGES:
            raise Refused("TooMany")
        self.changes.append((list(self.rules), [list(level) for level in self.levels]))

    def add(self, rule):
        if len(self.rules) == MOST_RULES:
            raise Refused("TooMany")
        self.keep()
        self.rules.append((self.next_number, rule))
        self.next_number += 1
        return self.next_number - 1

    def remove(self, number):
        if all(number != other for other, _ in self.rules):
            raise Refused("NoSuchRule")
        self.keep()
        self.rules = [row for row in self.rules if row[0] != number]

    def push(self):
        self.keep()
        self.levels.append(list(self.rules))
        return len(self.levels)

    def pop(self):
        if not self.levels:
            raise Refused("NothingPushed")
        self.keep()
        self.rules = self.levels.pop()
        return len(self.levels)

    def undo(self):
        if not self.changes:
            return False
        self.rules, self.levels = self.changes.pop()
        return True

    def shown(self):
        return tuple(self.rules), len(self.changes)


def shown(desk):
    """The rules of a desk and how many of its changes can be undone, after a look at whether it agrees with itself."""
    numbers = tuple(number for number, _ in desk.rules)
    assert type(desk.rules) is tuple and type(desk.ids) is tuple
    assert desk.ids == numbers == tuple(desk) == tuple(sorted(set(numbers)))
    assert len(desk) == len(numbers) and type(desk.change_count) is int
    return desk.rules, desk.change_count


def everything(desk):
    """A copy of all that a desk has, to be compared with what it has later."""
    return copy.deepcopy(vars(desk)), shown(desk)


def filled(space, many):
    """A desk with some rules, all of them satisfied by every assignment."""
    desk = Desk(space)
    for _ in range(many):
        desk.add(("or", ((space.names[0], tuple(range(16))),)))
    return desk
