"""Papers: they show that no plan of a project has ended at a time."""

from crewlags.boards import first_block, least_places, lifted, starts_at
from crewlags.couples import both_ways
from crewlags.errors import TooGreat
from crewlags.front import all_boards, in_time
from crewlags.kinds import is_index, is_natural, is_row, is_set
from crewlags.least_ends import from_to
from crewlags.leaves import fewest_at
from crewlags.moments import Reading, first_stock_over, least_use, no_modes, with_mode
from crewlags.needs import need_number
from crewlags.projects import need_project
from crewlags.seeking import best_of
from crewlags.ties import lift
from crewlags.times import places_between, steps_fault

MOST_FOR_LEAVES = 3


def papers_within(papers, moments):
    """Papers, each with its moment, if there are as many as moments; None otherwise."""
    if not is_row(papers) or len(papers) != len(moments):
        return None
    return [(paper, chosen, ahead) for paper, (chosen, ahead) in zip(papers, moments)]


def modes_within(reading, paper, chosen, ahead):
    """What is within a part that chooses a mode."""
    if len(paper) != 3 or not is_index(paper[1], len(chosen)) or chosen[paper[1]] is not None:
        return None
    a = paper[1]
    moments = [(with_mode(chosen, a, mode), ahead) for mode in range(len(reading.project.modes[a]))]
    return papers_within(paper[2], moments)


def stock_within(reading, paper, chosen, ahead):
    """What is within a part that shows that a stock is too small: nothing."""
    project = reading.project
    if len(paper) != 2 or not is_index(paper[1], len(project.stocks)):
        return None
    k = paper[1]
    return [] if least_use(project, chosen, k) > project.stocks[k] else None


def first_within(reading, paper, chosen, ahead):
    """What is within a part that tells which member of a set comes behind which other one."""
    if len(paper) != 3 or not is_set(paper[1], len(chosen)) or len(paper[1]) < 2:
        return None
    if not reading.is_apart(chosen, paper[1]):
        return None
    return papers_within(paper[2], [(chosen, ahead + (pair,)) for pair in both_ways(paper[1])])


def times_within(reading, paper, chosen, ahead):
    """What is within a part that shows that no starts keep the times: nothing."""
    if len(paper) != 2:
        return None
    return [] if steps_fault(paper[1], reading.spot_rows(chosen), reading.ties(ahead)) is None else None


def least_between(spots, first, last):
    """The least time that something goes on between two times, for all of some spots."""
    return min([max(0, min(end, last) - max(start, first)) for start, end in spots])


def energy_within(reading, paper, chosen, ahead):
    """What is within a part that shows that a machine cannot bear what must be done: nothing."""
    project = reading.project
    if len(paper) != 4 or not is_index(paper[1], len(project.machines)):
        return None
    _, machine, first, last = paper
    if not is_natural(first) or not is_natural(last) or first >= last:
        return None
    rows = reading.spot_rows(chosen)
    between = places_between(rows, reading.ties(ahead))
    if between is None:
        return None
    work = 0
    for a, (least, greatest) in enumerate(zip(between[0], between[1])):
        demand = project.modes[a][chosen[a]][1][machine]
        work += demand * least_between(rows[a][least:greatest + 1], first, last)
    return [] if work > project.machines[machine] * (last - first) else None


ANYWHERE = {"modes": modes_within, "stock": stock_within}
ALL_CHOSEN = {"first": first_within, "times": times_within, "energy": energy_within}


def within(reading, paper, chosen, ahead):
    """The papers within a part, each with its moment; None if it is no part itself."""
    if not isinstance(paper, tuple) or len(paper) == 0 or not isinstance(paper[0], str):
        return None
    tell = ANYWHERE.get(paper[0])
    if tell is None and None not in chosen:
        tell = ALL_CHOSEN.get(paper[0])
    return None if tell is None else tell(reading, paper, chosen, ahead)


def no_times(reading, choice, ahead):
    """The part that shows that no starts keep the times."""
    _, steps = lift(reading.spot_rows(choice), reading.ties(ahead))
    return "times", steps


def too_much(reading, choice, starts):
    """The part that shows that a machine cannot bear what must be done from the least starts on, or None."""
    project = reading.project
    last = min(reading.most, project.horizon)
    all_demands, lengths = reading.machine_work(choice)
    for machine, demands in enumerate(all_demands):
        span = from_to(project.machines[machine], demands, starts, lengths)
        if span is not None and span[1] > last:
            return "energy", machine, span[0], last
    return None


def paper_behind(reading, board, places, ahead):
    """A paper at a moment at which all modes are chosen, the least places being told; None for none."""
    if places is None:
        return no_times(reading, board.choice, ahead)
    part = too_much(reading, board.choice, starts_at(board, places))
    if part is not None:
        return part
    block = first_block(board, places)
    papers = []
    for pair in both_ways(block):
        more = ahead + (pair,)
        papers.append(paper_behind(reading, board, lifted(board, places, more), more))
    return "first", block, tuple(papers)


def paper_with(reading, boards, chosen):
    """A paper at a moment at which nothing is ahead; the board of each choice is told."""
    k = first_stock_over(reading.project, chosen)
    if k is not None:
        return "stock", k
    if None not in chosen and chosen not in boards:
        return no_times(reading, chosen, ())
    if None not in chosen:
        return paper_behind(reading, boards[chosen], least_places(boards[chosen]), ())
    a = chosen.index(None)
    moments = [with_mode(chosen, a, mode) for mode in range(len(reading.project.modes[a]))]
    return "modes", a, tuple([paper_with(reading, boards, moment) for moment in moments])


def flaw(project, most, paper):
    """The way to the first part of a paper that is none, or None."""
    need_project(project)
    need_number(most, "most")
    reading = Reading(project, most)
    waiting = [(paper, no_modes(project), (), ())]
    while waiting:
        part, chosen, ahead, way = waiting.pop()
        parts = within(reading, part, chosen, ahead)
        if parts is None:
            return way
        for at in range(len(parts) - 1, -1, -1):
            waiting.append(parts[at] + (way + (at,),))
    return None


def paper_of(project, most):
    """A paper, or None if some plan keeps the project and has ended at most at a time."""
    need_project(project)
    need_number(most, "most")
    boards = all_boards(project, most)
    if best_of(in_time(project, boards, most), lambda board, places: 0) is not None:
        return None
    return paper_with(Reading(project, most), {board.choice: board for board in boards}, no_modes(project))


def fewest_leaves(project, most):
    """The least number of parts of a paper that are neither "modes" nor "first", without "energy"; None for none."""
    need_project(project)
    need_number(most, "most")
    if len(project.names) > MOST_FOR_LEAVES:
        raise TooGreat(MOST_FOR_LEAVES)
    return fewest_at(Reading(project, most), no_modes(project))
