"""Schedules: texts that tell a world and its events."""

from onestepcourt.errors import BadSchedule
from onestepcourt.plans import Plan
from onestepcourt.worlds import World


def read_schedule(text):
    """Returns the pair of the settings of a world and of the tuple of its events, or raises BadSchedule."""
    if not isinstance(text, str):
        raise BadSchedule(0)
    lines = text.split("\n")
    plan = Plan()
    at = 0
    while at < len(lines):
        behind = place_behind(plan, lines, at)
        if behind is None:
            raise BadSchedule(at + 1)
        at = behind
    if not plan.has_player():
        raise BadSchedule(len(lines))
    return (plan.settings(), plan.events())


def place_behind(plan, lines, at):
    """Has a plan take the line at a place; returns the place of the line that follows, or None if it is wrong."""
    line = lines[at]
    if line == "" or line.startswith("#"):
        return at + 1
    if line != "text":
        return at + 1 if plan.take(line.split(" ")) else None
    end = at + 1
    while end < len(lines) and lines[end] != ".":
        end = end + 1
    if end == len(lines) or not plan.take_text(lines[at + 1:end]):
        return None
    return end + 1


def run(text):
    """Returns a world that was told the events of a schedule; raises BadSchedule."""
    (bits, bond, patience, late, players), events = read_schedule(text)
    world = World(bits, bond, patience, late, players)
    for event in events:
        world.do(event)
    return world
