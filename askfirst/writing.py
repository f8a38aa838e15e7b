"""How the parts of an answer are written as octets."""


def common_divisor(first, second):
    """The greatest whole number that divides both; not both are 0."""
    while second > 0:
        rest = first % second
        first = second
        second = rest
    return first


def integer_octets(number):
    """Eight octets, the least significant first, in two's complement."""
    return [(number >> (8 * index)) & 255 for index in range(8)]


def fraction_octets(fraction):
    """Numerator and denominator in lowest terms; the pair has a denominator above 0."""
    numerator = fraction[0]
    denominator = fraction[1]
    divisor = common_divisor(abs(numerator), denominator)
    return integer_octets(numerator // divisor) + integer_octets(denominator // divisor)


def length_octets(length):
    """Two octets, the least significant first, ahead of a list."""
    return [length & 255, length >> 8]


def octet_list_octets(values):
    """A list of octets."""
    return length_octets(len(values)) + values


def fraction_list_octets(fractions):
    """A list of fractions."""
    octets = length_octets(len(fractions))
    for fraction in fractions:
        octets.extend(fraction_octets(fraction))
    return octets


def plan_octets(plan):
    """A plan: its proposals, and its ending."""
    octets = octet_list_octets(plan.proposals)
    if plan.ending is None:
        return octets + [0]
    return octets + [1, plan.ending]
