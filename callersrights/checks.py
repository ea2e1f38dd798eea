"""Checks: whether they pass in runs, the first fail and the last end."""

from callersrights.flow import Flow
from callersrights.programs import need_place, need_program
from callersrights.search import search_runs


def outcome(program, place):
    """What becomes of a check in runs: "never", "passes", "fails" or "both"."""
    need_program(program)
    need_place(program, place, ("check",))
    search = search_runs(Flow(program))
    words = [event.word for event in search.all_events() if event.place() == place]
    if len(words) == 0:
        return "never"
    if "fail" not in words:
        return "passes"
    return "both" if "check" in words else "fails"


def first_fail(program):
    """A run with as few events as possible that ends with a fail, or None if there is none."""
    need_program(program)
    return search_runs(Flow(program)).nearest(is_fail)


def never_fails(program):
    """Whether no run of a program ends with a fail."""
    return not search_runs(Flow(program)).has(is_fail)


def is_fail(event):
    """Whether an event is a fail."""
    return event.word == "fail"


def last_end(program):
    """A run with as few events as possible behind which the stack is empty, or None if there is none."""
    need_program(program)
    return search_runs(Flow(program)).whole_run()
