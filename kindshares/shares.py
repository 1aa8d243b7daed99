"""How a share fares at the places.

A fraction is a pair, the upper number and the lower one, without a common divisor. The worths of a place are
three numbers: the first kind with itself, both together, the second with itself.
"""

ALL_SEEDS = 100


# The greatest common divisor of two numbers, not both 0.
def common_divisor(one, other):
    while other != 0:
        rest = one % other
        one = other
        other = rest
    return one


# Upper by lower as a fraction; lower is above 0.
def lowest(upper, lower):
    divisor = common_divisor(upper, lower)
    return (upper // divisor, lower // divisor)


# The upper number of what the share lacks to 1; the lower one is the share's own.
def lack(share):
    return share[1] - share[0]


# The parts stay whole numbers over a known power of the share's lower number: so a generation is brought
# to lowest terms once, at its end, however great its numbers are.


# What the first kind is worth, times the share's lower number.
def first_part(share, worths):
    return worths[0] * share[0] + worths[1] * lack(share)


# What the second kind is worth, times the share's lower number.
def second_part(share, worths):
    return worths[1] * share[0] + worths[2] * lack(share)


# The mean, times the square of the share's lower number.
def mean_part(share, worths):
    return share[0] * first_part(share, worths) + lack(share) * second_part(share, worths)


def first_worth(share, worths):
    return lowest(first_part(share, worths), share[1])


def second_worth(share, worths):
    return lowest(second_part(share, worths), share[1])


def mean_worth(share, worths):
    return lowest(mean_part(share, worths), share[1] * share[1])


# The share chosen at a place, not yet in lowest terms.
def chosen_parts(share, worths):
    return (share[0] * first_part(share, worths), mean_part(share, worths))


def chosen_share(share, worths):
    chosen = chosen_parts(share, worths)
    return lowest(chosen[0], chosen[1])


# One upper and one lower number for each place, each times its hundredths of the seeds, together.
def over_all_places(seeds, parts):
    upper = 0
    lower = 1
    for seeds_here, part in zip(seeds, parts):
        upper = upper * part[1] + seeds_here * part[0] * lower
        lower = lower * part[1]
    return lowest(upper, lower * ALL_SEEDS)


# The next generation's share; here and below seeds and worths are told place by place.
def share_next(share, seeds, worths):
    return over_all_places(seeds, [chosen_parts(share, worths_here) for worths_here in worths])


def share_after(share, seeds, worths, generations):
    for generation in range(generations):
        share = share_next(share, seeds, worths)
    return share


# 1 if the later fraction is more, -1 if it is less, 0 if both are the same.
def direction(before, later):
    gain = later[0] * before[1] - before[0] * later[1]
    if gain > 0:
        return 1
    if gain < 0:
        return -1
    return 0


def share_way(share, seeds, worths):
    return direction(share, share_next(share, seeds, worths))


# By how much a little of the first kind grows among the second.
def first_growth(seeds, worths):
    return over_all_places(seeds, [(worths_here[1], worths_here[2]) for worths_here in worths])


# By how much a little of the second kind grows among the first.
def second_growth(seeds, worths):
    return over_all_places(seeds, [(worths_here[1], worths_here[0]) for worths_here in worths])


def is_above_one(fraction):
    return fraction[0] > fraction[1]


def are_both_kept(seeds, worths):
    return is_above_one(first_growth(seeds, worths)) and is_above_one(second_growth(seeds, worths))


# All places' means have the same lower number here, so that their parts stand for them.
def best_place(share, worths):
    parts = [mean_part(share, worths_here) for worths_here in worths]
    return parts.index(max(parts))


def power(number, times):
    product = 1
    for turn in range(times):
        product = product * number
    return product


# The product as an upper and a lower number that may have a common divisor: they are great, and only compared.
def product_of_means(share, seeds, worths):
    upper = 1
    lower = 1
    for seeds_here, worths_here in zip(seeds, worths):
        mean = mean_worth(share, worths_here)
        upper = upper * power(mean[0], seeds_here)
        lower = lower * power(mean[1], seeds_here)
    return (upper, lower)


def product_way(share, seeds, worths):
    later = share_next(share, seeds, worths)
    return direction(product_of_means(share, seeds, worths), product_of_means(later, seeds, worths))
