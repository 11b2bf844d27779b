"""The limits of arguments: each check refuses what lies outside of them."""

from homemoves.refusals import OutsideLimits

GREATEST_FACTOR = 20
MOST_EDGES = 9
GREATEST_LENGTH = 100
GREATEST_VERSION = 9
GREATEST_ROW = 9999
MOST_ROWS = 12
MOST_USES = 60


def check_number(number, least, greatest):
    if number < least or number > greatest:
        raise OutsideLimits()


def check_tree(factor, parents, lengths):
    check_number(factor, 1, GREATEST_FACTOR)
    check_number(len(parents), 0, MOST_EDGES)
    for place, parent in enumerate(parents):
        check_number(parent, 0, place)
    check_number(len(lengths), len(parents), len(parents))
    for length in lengths:
        check_number(length, 1, GREATEST_LENGTH)


def check_version(version):
    check_number(version, 0, GREATEST_VERSION)


def check_row(row):
    check_number(row, 1, GREATEST_ROW)


def check_versions(versions):
    check_number(len(versions), 0, MOST_USES)
    for version in versions:
        check_version(version)
