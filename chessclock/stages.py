"""Stages: what a clock may be made of; anything else is refused with BadStages."""

from chessclock.errors import BadStages

MOST_STAGES = 5
MOST_MOVES = 200
MOST_PERIODS = 200
MOST_TICKS = 1000000
MOST_EXTRA = 1000000
WAYS = ("plain", "add", "back", "wait")


def is_whole_within(value, least, most):
    # To Python a truth is an int too; here it is no whole number.
    if not isinstance(value, int) or isinstance(value, bool):
        return False
    return least <= value <= most


def is_good_main(stage):
    if len(stage) != 5:
        return False
    if stage[1] is not None and not is_whole_within(stage[1], 1, MOST_MOVES):
        return False
    if not is_whole_within(stage[2], 1, MOST_TICKS):
        return False
    return stage[3] in WAYS and is_whole_within(stage[4], 0, MOST_EXTRA)


def is_good_over(stage):
    if len(stage) != 3:
        return False
    return is_whole_within(stage[1], 1, MOST_PERIODS) and is_whole_within(stage[2], 1, MOST_TICKS)


def is_main(stage):
    return stage[0] == "main"


def is_over(stage):
    return stage[0] == "over"


def is_endless(stage):
    return is_main(stage) and stage[1] is None


# Main and over tell their ticks in the same place.
def ticks_of(stage):
    return stage[2]


def is_good_stage(stage):
    if not isinstance(stage, tuple) or len(stage) == 0:
        return False
    if is_main(stage):
        return is_good_main(stage)
    return is_over(stage) and is_good_over(stage)


def may_stand_behind(later, earlier):
    if is_over(earlier):
        return False
    # Moves without end are never used up, so only running out of ticks leads on, and that only to over.
    return is_over(later) or not is_endless(earlier)


def check_each(stages):
    for number, stage in enumerate(stages):
        if not is_good_stage(stage):
            raise BadStages(f"stage {number} is none of those that there are")


def check_order(stages):
    for number in range(1, len(stages)):
        if not may_stand_behind(stages[number], stages[number - 1]):
            raise BadStages(f"stage {number} may not stand behind the one ahead of it")
    if not is_over(stages[-1]) and not is_endless(stages[-1]):
        raise BadStages("the last stage must be over, or of moves None")


# The answer is a tuple of its own, so that the caller's list may change later without changing a clock.
def read_stages(stages):
    if not isinstance(stages, list) or not 1 <= len(stages) <= MOST_STAGES:
        raise BadStages(f"stages must be a list of 1 to {MOST_STAGES}")
    check_each(stages)
    check_order(stages)
    return tuple(stages)
