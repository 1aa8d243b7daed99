"""How a share fares at the places.

A fraction is a pair, the upper number and the lower one, without a common divisor. The worths of a place are
three numbers: the first kind with itself, both together, the second with itself.
"""

ALL_SEEDS = 100


# The greatest common divisor of two numbers, not both 0.
def common_divisor(one, other):
    while other != 0:
        rest = one % other
        one = other
        other = rest
    return one


# Upper by lower as a fraction; lower is above 0.
def lowest(upper, lower):
    divisor = common_divisor(upper, lower)
    return (upper // divisor, lower // divisor)


# The upper number of what the share lacks to 1; the lower one is the share's own.
def lack(share):
    return share[1] - share[0]


# The parts stay whole numbers over a known power of the share's lower number: so a generation is brought
# to lowest terms once, at its end, however great its numbers are.


# What the first kind is worth, times the share's lower number.
def first_part(share, worths):
    return worths[0] * share[0] + worths[1] * lack(share)


# What the second kind is worth, times the share's lower number.
def second_part(share, worths):
    return worths[1] * share[0] + worths[2] * lack(share)


# The mean, times the square of the share's lower number.
def mean_part(share, worths):
    return share[0] * first_part(share, worths) + lack(share) * second_part(share, worths)


def first_worth(share, worths):
    return lowest(first_part(share, worths), share[1])


def second_worth(share, worths):
    return lowest(second_part(share, worths), share[1])


def mean_worth(share, worths):
    return lowest(mean_part(share, worths), share[1] * share[1])


# The next generation's share; seeds and worths are told place by place.
def share_next(share, seeds, worths):
    upper = 0
    lower = 1
    for seeds_here, worths_here in zip(seeds, worths):
        chosen = share[0] * first_part(share, worths_here)
        mean = mean_part(share, worths_here)
        upper = upper * mean + seeds_here * chosen * lower
        lower = lower * mean
    return lowest(upper, lower * ALL_SEEDS)


def share_after(share, seeds, worths, generations):
    for generation in range(generations):
        share = share_next(share, seeds, worths)
    return share


# 1 if the later fraction is more, -1 if it is less, 0 if both are the same.
def direction(before, later):
    gain = later[0] * before[1] - before[0] * later[1]
    if gain > 0:
        return 1
    if gain < 0:
        return -1
    return 0
