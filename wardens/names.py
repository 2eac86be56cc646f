"""The problems of a source, and the project that it stands for."""

from wardens.completing import complete
from wardens.declaring import declare
from wardens.drafts import Draft
from wardens.errors import SourceError
from wardens.parsing import parse


def problems(text):
    """Returns the list of the problems of a source, as triples (line, column, what)."""
    try:
        tree, places = parse(text)
    except SourceError as fault:
        return [(fault.line, fault.column, fault.what)]
    _, found = examine(tree, places)
    return found


def compile_source(text):
    """Returns the project of a source. Raises SourceError with its first problem if it has one."""
    tree, places = parse(text)
    draft, found = examine(tree, places)
    if len(found) > 0:
        line, column, what = found[0]
        raise SourceError(line, column, what)
    return draft.project()


def examine(tree, places):
    """Goes through all items, and returns what is known of them and the list of their problems."""
    draft = Draft()
    problem_at = [None] * len(tree)
    for step in (declare, complete):
        for index, item in enumerate(tree):
            if problem_at[index] is None:
                problem_at[index] = problem_of(step, draft, item, places[index])
    return draft, [problem for problem in problem_at if problem is not None]


def problem_of(step, draft, item, position):
    """Takes a step for an item, and returns the problem that it finds, or None."""
    try:
        step(draft, item, position)
    except SourceError as problem:
        return (problem.line, problem.column, problem.what)
    return None
