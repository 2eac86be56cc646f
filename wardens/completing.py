"""The problems of items that have none of declaration, and what the items stand for in a project."""

from wardens.meanings import CONDITION, FACT, NUMBER, REQUIREMENT, checked_meaning, checked_number, form_as
from wardens.scopes import Scope, WideScope

MOST_MOVES = 12
MOST_SENSORS = 8
LARGEST_ERROR = 1000


def complete(draft, item, position):
    """Adds what an item stands for to a draft, or raises SourceError with its problem."""
    word = item[0]
    if word == "part":
        complete_part(draft, item, position)
    if word == "sensor":
        complete_sensor(draft, item, position)
    if word == "define":
        complete_definition(draft, item, position)
    if word == "require":
        complete_requirement(draft, item, position)


def wide_scope(draft, own, position):
    """Returns the scope of an expression; own has the variables of the part in which it stands."""
    return WideScope(position, draft.constants, draft.definitions, own, draft.parts)


def complete_part(draft, item, position):
    """Adds a part with its moves."""
    _, part, pieces = item
    own = draft.parts[part]
    scope = wide_scope(draft, own, position)
    moves = []
    for piece in pieces:
        if piece[0] == "move":
            check_move_name(piece[1], moves, scope)
            moves.append(move_row(piece, own, scope))
    if len(moves) == 0:
        scope.fault(f"no moves: {part}")
    draft.moving_parts.append((part, first_variable(draft, part), len(own), tuple(moves)))


def check_move_name(name, moves, scope):
    """Finds the problem of a move's name, or of its number."""
    if name in [row[0] for row in moves]:
        scope.fault(f"declared twice: {name}")
    if len(moves) >= MOST_MOVES:
        scope.fault("too many moves")


def first_variable(draft, part):
    """Returns the index of a part's first variable: the number of those of the parts before it."""
    first = 0
    for name, variables in draft.parts.items():
        if name == part:
            break
        first += len(variables)
    return first


def move_row(piece, own, scope):
    """Returns the row of a move."""
    _, name, guard, changes = piece
    settings = []
    condition = ("true",)
    if guard is not None:
        condition = condition_about_now(guard, scope)
    for changed, low, high in changes:
        if changed not in own:
            scope.fault(f"not a variable of this part: {changed}")
        variable = own[changed].form[1]
        if variable in [setting[0] for setting in settings]:
            scope.fault(f"set twice: {changed}")
        least = checked_number(low, scope).form
        greatest = least if high is None else checked_number(high, scope).form
        settings.append((variable, least, greatest))
    return (name, condition, tuple(settings))


def condition_about_now(tree, scope):
    """Returns the condition of a guard."""
    meaning = checked_meaning(tree, scope)
    if meaning.kind != CONDITION:
        scope.fault("expected a condition about now")
    return meaning.form


def complete_sensor(draft, item, position):
    """Adds a sensor."""
    _, name, value, error, lossy = item
    scope = wide_scope(draft, {}, position)
    if len(draft.sensors) >= MOST_SENSORS:
        scope.fault("too many sensors")
    term = checked_number(value, scope).form
    width = 0
    if error is not None:
        width, _ = checked_number(error, Scope(position, draft.constants)).bounds
    if width < 0 or width > LARGEST_ERROR:
        scope.fault("wrong error")
    draft.sensors.append((name, term, width, lossy))


def complete_definition(draft, item, position):
    """Adds a definition, and the fact that it is, if it is one."""
    _, name, value = item
    meaning = checked_meaning(value, wide_scope(draft, {}, position))
    draft.definitions[name] = meaning
    if meaning.kind in (CONDITION, FACT):
        draft.facts.append((name, form_as(FACT, meaning, meaning.form)))


def complete_requirement(draft, item, position):
    """Adds a requirement."""
    _, name, value = item
    scope = wide_scope(draft, {}, position)
    meaning = checked_meaning(value, scope)
    if meaning.kind == NUMBER:
        scope.fault("expected a condition")
    draft.requirements.append((name, form_as(REQUIREMENT, meaning, meaning.form)))
