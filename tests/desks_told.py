"""Desks for several test files."""

from evenboxes.desks import Desk


def state(desk):
    return (desk.names, tuple(desk[name] for name in desk.names), desk.promises, desk.changes, len(desk))


def desk_with(*pairs):
    desk = Desk()
    for name, order in pairs:
        desk[name] = order
    return desk
