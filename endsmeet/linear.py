"""Checks of what is told of the linear blocks of sheets."""

from endsmeet.errors import BadBlock, BadKind, BadPrices, BadWeights
from endsmeet.placing import is_linear
from endsmeet.words import is_count, is_int

GREATEST_WEIGHT = 100


def linear_names(sheet):
    """The ascending list of the names of the linear blocks of a sheet."""
    return [name for name in sheet if is_linear(sheet, name)]


def do_ascend(words):
    """Whether each word is greater than the one before it."""
    return all([words[at] < words[at + 1] for at in range(len(words) - 1)])


def check_linear_names(sheet, names):
    """Raise BadBlock, if a value is not an ascending tuple of one or more names of linear blocks."""
    if not isinstance(names, tuple) or not names:
        raise BadBlock("the names are not a tuple with at least one")
    if not all([is_linear(sheet, name) for name in names]):
        raise BadBlock("a name is not that of a linear block")
    if not do_ascend(names):
        raise BadBlock("the names do not ascend")


def check_joints(sheet, joints):
    """Raise BadKind, if a value is not an ascending tuple of joints of a sheet."""
    if not isinstance(joints, tuple):
        raise BadKind("the joints are not a tuple")
    known = sheet.joints()
    if not all([isinstance(joint, str) and joint in known for joint in joints]):
        raise BadKind("the sheet has no such joint")
    if not do_ascend(joints):
        raise BadKind("the joints do not ascend")


def check_weights(sheet, weights):
    """Raise BadWeights, if a value is not a dict with a weight for each linear block."""
    if not isinstance(weights, dict):
        raise BadWeights("the weights are not a dict")
    for name in linear_names(sheet):
        if name not in weights or not is_int(weights[name]) or not 1 <= weights[name] <= GREATEST_WEIGHT:
            raise BadWeights("a linear block has no weight from 1 to 100")


def check_linear_prices(sheet, prices):
    """Raise BadPrices, if a value is not a dict with a price for each linear block."""
    if not isinstance(prices, dict):
        raise BadPrices("the prices are not a dict")
    for name in linear_names(sheet):
        if name not in prices or not is_count(prices[name]):
            raise BadPrices("a linear block has no price that is an integer from 0")
