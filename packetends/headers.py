"""Headers, patterns, rewrites and sets of headers.

A header is a whole number. A pattern or a rewrite is a pair of numbers: the
weights of the bits that it tells, and of those the ones that it tells to be 1.
A set of headers is a list that holds True or False for each header in order.
"""


def is_pattern(pattern, size):
    """Whether the two numbers are a pattern of headers that are below size."""
    # The second number needs no range of its own: below 0 or with a bit too high it would have bits not told.
    return 0 <= pattern[0] < size and (pattern[0] & pattern[1]) == pattern[1]


def matches(header, pattern):
    return (header & pattern[0]) == pattern[1]


def rewritten(header, rewrite):
    return header - (header & rewrite[0]) + rewrite[1]


def set_of(headers, size):
    """The set of these headers, of all that are below size."""
    members = [False for header in range(size)]
    for header in headers:
        members[header] = True
    return members


def one_form(members):
    """The patterns of a set, in the order of its one form."""
    if len(members) == 1:
        return [(0, 0)] if members[0] else []
    # Half the length is also the weight of the highest bit.
    weight = len(members) // 2
    with_zero = members[:weight]
    with_one = members[weight:]
    if with_zero == with_one:
        return one_form(with_zero)
    patterns = [(told + weight, bits) for told, bits in one_form(with_zero)]
    patterns.extend([(told + weight, bits + weight) for told, bits in one_form(with_one)])
    return patterns


def set_numbers(members):
    """A set as it stands in an answer."""
    patterns = one_form(members)
    numbers = [members.count(True), len(patterns)]
    for pattern in patterns:
        numbers.extend(pattern)
    return numbers
