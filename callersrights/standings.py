"""Standings: the rights with which steps are reached, and tables of what frames are handed."""

from callersrights.bodies import is_name, is_tuple_of
from callersrights.flow import EVENT_WORDS, Flow
from callersrights.programs import is_ordered, need_known, need_ordered, need_place, need_program
from callersrights.search import Search, search_runs


def held(program, place):
    """The list, in order, of all standings that runs have at a place, each once."""
    need_program(program)
    need_place(program, place, EVENT_WORDS)
    search = search_runs(Flow(program))
    found = sorted({event.standing for event in search.all_events() if event.place() == place})
    return [list(standing) for standing in found]


def run_to(program, place, standing):
    """A run with as few events as possible whose last one is at a place, with a standing, or None."""
    need_program(program)
    need_place(program, place, EVENT_WORDS)
    need_ordered(standing, program.rights())
    wanted = tuple(standing)
    search = search_runs(Flow(program))
    return search.nearest(lambda event: event.place() == place and event.standing == wanted)


def can_end(program, name, handed):
    """Whether a frame of a function that is handed rights can end."""
    need_program(program)
    need_known(name, [function[0] for function in program.functions()])
    need_ordered(handed, program.rights())
    return Search(Flow(program), name, tuple(handed)).start.length is not None


def table(program):
    """The table of the frames that stand on the stack in runs."""
    need_program(program)
    search = search_runs(Flow(program))
    return sorted([(kind.name, list(kind.handed), kind.length is not None) for kind in search.kinds.values()])


def is_table(program, value):
    """Whether a value is a table of a program."""
    need_program(program)
    flow = Flow(program)
    ends = ends_told(flow, value)
    if ends is None or (flow.first, flow.first_handed()) not in ends:
        return False
    return all([is_closed(flow, name, handed, ends) for name, handed in ends])


def ends_told(flow, value):
    """What a value tells of the ends of frames, by function and what they are handed, or None for no such list."""
    if not isinstance(value, list):
        return None
    ends = {}
    for item in value:
        if not is_row(flow, item):
            return None
        key = (item[0], tuple(item[1]))
        if key in ends:
            return None
        ends[key] = item[2]
    return ends


def is_row(flow, value):
    """Whether a value has the form of a tuple of a table."""
    if not is_tuple_of(value, 3) or not is_name(value[0]) or value[0] not in flow.bodies:
        return False
    return is_ordered(value[1], flow.all_rights) and isinstance(value[2], bool)


def is_closed(flow, name, handed, ends):
    """Whether all that a frame gets to is told of, if it goes on as is told, and its own end, too."""
    known = {(): True}
    waiting = [()]
    can_leave = False
    while waiting:
        moves = flow.moves(name, waiting.pop())
        can_leave = can_leave or moves.ends
        for path in moves.steps:
            if path in known:
                continue
            known[path] = True
            step = moves.steps[path]
            passed = is_passed(flow, step, flow.standing_at(name, path, handed), handed, ends)
            if passed is None:
                return False
            if passed and step[0] == "tail":
                can_leave = True
            elif passed:
                waiting.append(path)
    return ends[name, handed] or not can_leave


def is_passed(flow, step, standing, handed, ends):
    """Whether a frame gets past a step as is told, or None if the frame that it brings is not told of."""
    word, target = step
    if word == "check":
        return flow.passes(standing, target)
    return ends.get((target, flow.handed_on(word, handed, standing)))
