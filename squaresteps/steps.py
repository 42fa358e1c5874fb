"""Reasons a square out step by step, and tells each step in a line."""

from squaresteps.line_steps import line_step
from squaresteps.put_steps import lone_candidate_step
from squaresteps.put_steps import lone_place_step
from squaresteps.sheet import Sheet
from squaresteps.unit_steps import group_step
from squaresteps.unit_steps import shared_cells_step


def step_bytes(square):
    text = "".join([f"{line}\n" for line in step_lines(Sheet(square))])
    return [ord(sign) for sign in text]


def step_lines(sheet):
    lines = []
    step = next_step(sheet)
    while step is not None:
        lines.append(step.line)
        sheet.take(step)
        step = next_step(sheet)
    lines.append(last_line(sheet))
    return lines


def next_step(sheet):
    if sheet.has_no_filling() or sheet.open_cells == 0:
        return None
    return first_step(sheet)


def last_line(sheet):
    if sheet.has_no_filling():
        return "none"
    if sheet.open_cells == 0:
        return "done"
    return "stuck"


def first_step(sheet):
    return (
        lone_candidate_step(sheet)
        or lone_place_step(sheet)
        or shared_cells_step(sheet)
        or group_step(sheet, 2)
        or line_step(sheet, 2)
        or group_step(sheet, 3)
        or line_step(sheet, 3)
        or group_step(sheet, 4)
    )
