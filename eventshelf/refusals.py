"""The answers to calls that are refused: the error code alone."""


def no_store():
    return [-11]


def not_found():
    return [-2]


def outside_limits():
    return [-22]


def number_taken():
    return [-17]


def too_many():
    return [-28]


# Withdrawn, or nothing there to answer from: the document gives both one code.
def not_possible():
    return [-33]
