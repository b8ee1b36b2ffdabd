"""Views, and cases of programs with views (points 11 and 12)."""

from orderneed.errors import InvalidCase
from orderneed.programs import Program

VIEWS = ("ordered", "unordered", "ignored")
MOST_PROGRAMS = 3


def looks_same(view, first, second):
    """Return whether two lists of tuples of a signal and a number look the same by a view."""
    if view == "ignored":
        return True
    one = [tuple(entry) for entry in first]
    other = [tuple(entry) for entry in second]
    if view == "unordered":
        return sorted(one) == sorted(other)
    return one == other


def same_records(views, first, second):
    """Return whether two records of a program look the same, each output by its view."""
    return all([looks_same(view, one, other) for view, one, other in zip(views, first, second)])


class Case:
    """Programs that hear the same names, and for each program a view for each of its outputs."""

    def __init__(self, programs, views):
        if not _are_programs(programs):
            raise InvalidCase("the programs are not one to three programs that hear the same names in the same order")
        if not _are_views(programs, views):
            raise InvalidCase("the views are not one view for each output of each program")
        self.programs = tuple(programs)
        self.views = tuple([tuple(row) for row in views])


def _are_programs(programs):
    return (isinstance(programs, (list, tuple)) and 1 <= len(programs) <= MOST_PROGRAMS
            and all([isinstance(program, Program) for program in programs])
            and all([program.names == programs[0].names for program in programs]))


def _are_views(programs, views):
    return (isinstance(views, (list, tuple)) and len(views) == len(programs)
            and all([_fit_outputs(program, row) for program, row in zip(programs, views)]))


def _fit_outputs(program, row):
    return (isinstance(row, (list, tuple)) and len(row) == len(program.outputs)
            and all([view in VIEWS for view in row]))
