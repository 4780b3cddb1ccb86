"""Checks of arguments that several modules are given."""

from endsmeet.errors import BadAmounts, BadBlock, BadPrices, BadSheet
from endsmeet.sheets import Sheet
from endsmeet.words import is_count


def check_sheet(sheet):
    """Raise BadSheet, if a value is not a sheet."""
    if not isinstance(sheet, Sheet):
        raise BadSheet("this is not a sheet")


def check_block(sheet, name):
    """Raise BadBlock, if a value is not the name of a block of a sheet."""
    if name not in sheet:
        raise BadBlock("the sheet has no such block")


def check_amounts(sheet, amounts):
    """Raise BadAmounts, if a value is not amounts of blocks of a sheet."""
    if not isinstance(amounts, dict):
        raise BadAmounts("amounts are not a dict")
    if not all([name in sheet for name in amounts]):
        raise BadAmounts("there are amounts of what is no block of the sheet")
    if not all([is_count(many) for many in amounts.values()]):
        raise BadAmounts("an amount is not an integer from 0")


def check_some_amounts(sheet, amounts):
    """Raise BadAmounts, if a value is not amounts, or if there is no copy."""
    check_amounts(sheet, amounts)
    if not any(list(amounts.values())):
        raise BadAmounts("there is no copy")


def check_prices(sheet, prices):
    """Raise BadPrices, if a value is not prices for just the blocks of a sheet."""
    if not isinstance(prices, dict) or len(prices) != len(sheet):
        raise BadPrices("prices are not a dict for just the blocks of the sheet")
    if not all([name in sheet for name in prices]):
        raise BadPrices("there are prices of what is no block of the sheet")
    if not all([is_count(price) for price in prices.values()]):
        raise BadPrices("a price is not an integer from 0")
