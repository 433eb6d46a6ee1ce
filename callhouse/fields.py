"""What stands in header lines' values: parameters, Via, and the parties of From, To and Contact."""

from callhouse.hosts import endpoint_of, target_of
from callhouse.signs import BLANK, EQUALS, GREATER, LESS, SEMICOLON, begins, codes, is_word, place_of, small, split_at

MOST_PARAMETER_SIGNS = 128
VIA_START = "SIP/2.0/UDP "
BRANCH_START = "z9hG4bK"
STAR = "*"


class Parameter:
    # value is empty where there is none: a written value has one sign at least.
    def __init__(self, name, value):
        self.name = name
        self.value = value


class Via:
    def __init__(self, endpoint, parameters, branch):
        self.endpoint = endpoint
        self.parameters = parameters
        self.branch = branch


class Party:
    # target is None where a Contact is a star.
    def __init__(self, target, parameters):
        self.target = target
        self.parameters = parameters


def parameter_of(row):
    at = place_of(row, EQUALS)
    name = row if at < 0 else row[:at]
    value = [] if at < 0 else row[at + 1:]
    if not is_word(name) or (at >= 0 and not is_parameter_value(value)):
        return None
    return Parameter(small(name), value)


def is_parameter_value(row):
    barred = codes(";,<>\" ")
    return 1 <= len(row) <= MOST_PARAMETER_SIGNS and all([code not in barred for code in row])


def parameters_of(row):
    parts = split_at(row, SEMICOLON)
    if parts[0] != []:
        return None
    parameters = [parameter_of(part) for part in parts[1:]]
    if None in parameters:
        return None
    return parameters


def values_named(parameters, name):
    return [parameter.value for parameter in parameters if parameter.name == codes(name)]


def via_of(row):
    if not begins(row, VIA_START):
        return None
    rest = row[len(VIA_START):]
    end = place_of(rest, SEMICOLON)
    if end < 0:
        return None
    endpoint = endpoint_of(rest[:end])
    parameters = parameters_of(rest[end:])
    if endpoint is None or parameters is None:
        return None
    branches = values_named(parameters, "branch")
    if len(branches) != 1 or not begins(branches[0], BRANCH_START):
        return None
    return Via(endpoint, parameters, branches[0])


def party_of(row):
    start = place_of(row, LESS)
    end = place_of(row, GREATER)
    if start < 0 or end < start or (start > 0 and row[start - 1] != BLANK):
        return None
    target = target_of(row[start + 1:end])
    parameters = parameters_of(row[end + 1:])
    if target is None or parameters is None:
        return None
    return Party(target, parameters)


def contact_of(row):
    if row == codes(STAR):
        return Party(None, [])
    return party_of(row)
