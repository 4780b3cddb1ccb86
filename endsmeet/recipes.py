"""Recipes: what is one, and how it is written."""

from endsmeet.errors import BadRecipe
from endsmeet.given import check_sheet
from endsmeet.placing import is_placed
from endsmeet.spelling import spelled
from endsmeet.words import is_int

LARGEST_SIZE = 200
DEEPEST = 40
MOST_TIMES = 20


def are_times(low, high):
    """Whether two values tell how often a recipe can be taken."""
    if not is_int(low) or not 0 <= low <= MOST_TIMES:
        return False
    return high is None or is_int(high) and max(low, 1) <= high <= MOST_TIMES


def _parts_of(sheet, thing):
    """The recipes of which a value should be made, and how often they count; None, if it cannot be a recipe."""
    if not isinstance(thing, tuple) or not 2 <= len(thing) <= 4 or not isinstance(thing[0], str):
        return None
    form = thing[0]
    if form == "block":
        return ((), 1) if is_placed(sheet, thing[1:]) else None
    if form == "turned":
        return (thing[1:], 1) if len(thing) == 2 else None
    if form == "times":
        if len(thing) < 4 or not are_times(thing[2], thing[3]):
            return None
        return thing[1:2], thing[2] + 1 if thing[3] is None else thing[3]
    if form not in ("row", "either") or len(thing) > 2 or not isinstance(thing[1], tuple):
        return None
    # Each part has a size of at least 1, so that more of them need not be looked at.
    return (thing[1], 1) if 2 <= len(thing[1]) <= LARGEST_SIZE else None


def is_recipe_of(sheet, thing):
    """Whether a value is a recipe of a sheet that is one."""
    size = 0
    waiting = [(thing, 1, 1)]
    while waiting:
        part, depth, times = waiting.pop()
        told = _parts_of(sheet, part)
        if told is None or depth > DEEPEST:
            return False
        inner, more = told
        if not inner:
            size += times
        if size > LARGEST_SIZE:
            return False
        waiting.extend([(recipe, depth + 1, times * more) for recipe in inner])
    return True


def is_recipe(sheet, thing):
    """Whether a value is a recipe with linear blocks of a sheet."""
    check_sheet(sheet)
    return is_recipe_of(sheet, thing)


def check_recipe(sheet, recipe):
    """Raise BadSheet or BadRecipe for what is no sheet, or no recipe of it."""
    check_sheet(sheet)
    if not is_recipe_of(sheet, recipe):
        raise BadRecipe("this is not a recipe of the sheet")


def write_recipe(sheet, recipe):
    """The text of a recipe."""
    check_recipe(sheet, recipe)
    return spelled(recipe)
