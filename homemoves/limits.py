"""The limits of arguments: each check refuses what lies outside of them."""

from homemoves.refusals import OutsideLimits

GREATEST_FACTOR = 20
MOST_EDGES = 9
GREATEST_LENGTH = 100
GREATEST_VERSION = 9
GREATEST_ROW = 9999
MOST_ROWS = 12
MOST_USES = 60
MOST_VALUES = 1200
GREATEST_VALUE = 1000000000
MOST_VERSIONS = 10
GREATEST_WEIGHT = 1000
GREATEST_LIMIT = 12
GREATEST_PRICE = 1000000000


def check_number(number, least, greatest):
    if number < least or number > greatest:
        raise OutsideLimits()


def check_list(numbers, most, least, greatest):
    check_number(len(numbers), 0, most)
    for number in numbers:
        check_number(number, least, greatest)


def check_tree(factor, parents, lengths):
    check_number(factor, 1, GREATEST_FACTOR)
    check_number(len(parents), 0, MOST_EDGES)
    for place, parent in enumerate(parents):
        check_number(parent, 0, place)
    check_number(len(lengths), len(parents), len(parents))
    check_list(lengths, MOST_EDGES, 1, GREATEST_LENGTH)


def check_version(version):
    check_number(version, 0, GREATEST_VERSION)


def check_row(row):
    check_number(row, 1, GREATEST_ROW)


def check_versions(versions):
    check_list(versions, MOST_USES, 0, GREATEST_VERSION)


def check_homes_of_rows(homes):
    check_list(homes, MOST_ROWS, 0, GREATEST_VERSION)


def check_values(values):
    check_list(values, MOST_VALUES, -GREATEST_VALUE, GREATEST_VALUE)


def check_weights(weights):
    check_list(weights, MOST_VERSIONS, 0, GREATEST_WEIGHT)


def check_version_limits(limits):
    check_list(limits, MOST_VERSIONS, 0, GREATEST_LIMIT)


def check_prices(prices):
    check_list(prices, MOST_VERSIONS, 0, GREATEST_PRICE)
