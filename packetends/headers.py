"""Headers, patterns, rewrites and sets of headers.

A header is a whole number. A pattern or a rewrite is a pair of numbers: the
weights of the bits that it tells, and of those the ones that it tells to be 1.
A set of headers is a list that holds True or False for each header in order.
"""


def matches(header, pattern):
    return (header & pattern[0]) == pattern[1]


def rewritten(header, rewrite):
    return header - (header & rewrite[0]) + rewrite[1]


def one_form(members):
    """The patterns of a set, in the order of its one form."""
    if len(members) == 1:
        return [(0, 0)] if members[0] else []
    # Half the length is also the weight of the highest bit.
    weight = len(members) // 2
    with_zero = members[:weight]
    with_one = members[weight:]
    if with_zero == with_one:
        return one_form(with_zero)
    patterns = [(told + weight, bits) for told, bits in one_form(with_zero)]
    patterns.extend([(told + weight, bits + weight) for told, bits in one_form(with_one)])
    return patterns


def set_numbers(members):
    """A set as it stands in an answer."""
    patterns = one_form(members)
    numbers = [members.count(True), len(patterns)]
    for pattern in patterns:
        numbers.extend(pattern)
    return numbers
