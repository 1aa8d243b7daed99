"""The calls on one object, and what each of them answers."""

from kindshares.shares import ALL_SEEDS, are_both_kept, best_place, chosen_share, first_growth, first_worth, lowest
from kindshares.shares import mean_worth, product_way, second_growth, second_worth, share_after, share_next, share_way

NO_SUCH_PLACE = -2
NOT_STARTED = -11
TOO_FEW_SEEDS = -12
NOT_AS_TOLD = -22
TOO_GREAT = -28

MOST_PLACES = 3
NUMBERS_OF_A_PLACE = 4
LEAST_WORTH = 1
GREATEST_WORTH = 9
GREATEST_LOWER_TOLD = 100
GREATEST_LOWER_AT_MORE = 10
GREATEST_LOWER_AT_NEXT = 100000
MOST_GENERATIONS = 2
LEAST_PARTS = 2
MOST_PARTS = 30

START = 0

# By a call's number; start is not counted so, for its row tells its own length.
HOW_MANY_NUMBERS = (0, 3, 4, 2, 0, 1, 1, 0, 1, 0, 2, 0, 0, 0, 1, 2, 0, 1, 1, 0)


# The places, by their seeds and their worths, and the share. A start has a place at least, so without one the
# object is still new.
class Field:
    def __init__(self):
        self.seeds = []
        self.worths = []
        self.share = (0, 1)


def is_place(field, place):
    return place < len(field.seeds)


def are_worths(numbers):
    return min(numbers) >= LEAST_WORTH and max(numbers) <= GREATEST_WORTH


def is_share(upper, lower):
    return 1 <= lower <= GREATEST_LOWER_TOLD and upper <= lower


def are_whole_places(row):
    return len(row) % NUMBERS_OF_A_PLACE == 0 and 1 <= len(row) // NUMBERS_OF_A_PLACE <= MOST_PLACES


def seeds_of(row):
    return row[::NUMBERS_OF_A_PLACE]


def worths_of(row):
    return [tuple(row[at + 1:at + NUMBERS_OF_A_PLACE]) for at in range(0, len(row), NUMBERS_OF_A_PLACE)]


def start(field, row):
    if not are_whole_places(row):
        return [NOT_AS_TOLD]
    seeds = seeds_of(row)
    worths = worths_of(row)
    if not all([are_worths(worths_here) for worths_here in worths]) or sum(seeds) != ALL_SEEDS:
        return [NOT_AS_TOLD]
    field.seeds = seeds
    field.worths = worths
    field.share = (0, 1)
    return [len(seeds)]


def move_seeds(field, numbers):
    giver = numbers[0]
    taker = numbers[1]
    moved = numbers[2]
    if not is_place(field, giver) or not is_place(field, taker):
        return [NO_SUCH_PLACE]
    if moved == 0 or giver == taker:
        return [NOT_AS_TOLD]
    if field.seeds[giver] < moved:
        return [TOO_FEW_SEEDS]
    field.seeds[giver] -= moved
    field.seeds[taker] += moved
    return [field.seeds[taker]]


def set_worths(field, numbers):
    place = numbers[0]
    worths = tuple(numbers[1:])
    if not is_place(field, place):
        return [NO_SUCH_PLACE]
    if not are_worths(worths):
        return [NOT_AS_TOLD]
    before = field.worths[place]
    field.worths[place] = worths
    return list(before)


def set_share(field, numbers):
    if not is_share(numbers[0], numbers[1]):
        return [NOT_AS_TOLD]
    field.share = lowest(numbers[0], numbers[1])
    return [0]


def tell_share(field, numbers):
    return [0] + list(field.share)


def tell_mean(field, numbers):
    if not is_place(field, numbers[0]):
        return [NO_SUCH_PLACE]
    return [0] + list(mean_worth(field.share, field.worths[numbers[0]]))


def tell_kinds(field, numbers):
    if not is_place(field, numbers[0]):
        return [NO_SUCH_PLACE]
    worths = field.worths[numbers[0]]
    return [0] + list(first_worth(field.share, worths)) + list(second_worth(field.share, worths))


def pass_generation(field, numbers):
    if field.share[1] > GREATEST_LOWER_AT_NEXT:
        return [TOO_GREAT]
    field.share = share_next(field.share, field.seeds, field.worths)
    return [0]


def tell_after(field, numbers):
    if numbers[0] > MOST_GENERATIONS:
        return [NOT_AS_TOLD]
    return [0] + list(share_after(field.share, field.seeds, field.worths, numbers[0]))


def tell_way(field, numbers):
    return [0, share_way(field.share, field.seeds, field.worths)]


def tell_way_at(field, numbers):
    if not is_share(numbers[0], numbers[1]):
        return [NOT_AS_TOLD]
    return [0, share_way(lowest(numbers[0], numbers[1]), field.seeds, field.worths)]


def tell_enters(field, numbers):
    return [0] + list(first_growth(field.seeds, field.worths))


def tell_enters_other(field, numbers):
    return [0] + list(second_growth(field.seeds, field.worths))


def tell_both(field, numbers):
    if are_both_kept(field.seeds, field.worths):
        return [1]
    return [0]


def tell_at_place(field, numbers):
    if not is_place(field, numbers[0]):
        return [NO_SUCH_PLACE]
    return [0] + list(chosen_share(field.share, field.worths[numbers[0]]))


def tell_more(field, numbers):
    if not is_share(numbers[0], numbers[1]) or numbers[1] > GREATEST_LOWER_AT_MORE:
        return [NOT_AS_TOLD]
    return [0, product_way(lowest(numbers[0], numbers[1]), field.seeds, field.worths)]


def tell_best(field, numbers):
    return [best_place(field.share, field.worths)]


def tell_near(field, numbers):
    parts = numbers[0]
    if not LEAST_PARTS <= parts <= MOST_PARTS:
        return [NOT_AS_TOLD]
    ways = [share_way(lowest(upper, parts), field.seeds, field.worths) for upper in range(1, parts)]
    return [len(ways)] + ways


def tell_place(field, numbers):
    if not is_place(field, numbers[0]):
        return [NO_SUCH_PLACE]
    return [field.seeds[numbers[0]]] + list(field.worths[numbers[0]])


def tell_state(field, numbers):
    return [len(field.seeds), sum(field.seeds)]


ANSWERED_BY = {
    0: start,
    1: move_seeds,
    2: set_worths,
    3: set_share,
    4: tell_share,
    5: tell_mean,
    6: tell_kinds,
    7: pass_generation,
    8: tell_after,
    9: tell_way,
    10: tell_way_at,
    11: tell_enters,
    12: tell_enters_other,
    13: tell_both,
    14: tell_at_place,
    15: tell_more,
    16: tell_best,
    17: tell_near,
    18: tell_place,
    19: tell_state,
}


def numbers_begin(calls, at):
    if calls[at] == START:
        return at + 2
    return at + 1


def numbers_end(calls, at):
    if calls[at] == START:
        return at + 2 + calls[at + 1]
    return at + 1 + HOW_MANY_NUMBERS[calls[at]]


def answer(field, call, numbers):
    if call != START and len(field.seeds) == 0:
        return [NOT_STARTED]
    return ANSWERED_BY[call](field, numbers)


def answers(calls):
    field = Field()
    told = []
    at = 0
    while at < len(calls):
        end = numbers_end(calls, at)
        answered = answer(field, calls[at], calls[numbers_begin(calls, at):end])
        told.append(len(answered))
        told.extend(answered)
        at = end
    return told
