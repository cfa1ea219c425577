"""Takers in turn: they go round and round, and each takes a drop where it still can."""


def count_ways(free, ways):
    counts = [0] * len(free)
    for way in ways:
        for reach in way:
            counts[reach] += 1
    return counts


def whole_turns(free, ways, rests):
    counts = count_ways(free, ways)
    shares = [drops // count for drops, count in zip(free, counts) if count > 0]
    return max(0, min(list(rests) + shares, default=0))


def draw(left, way, drops):
    for reach in way:
        left[reach] -= drops


def take_whole_turns(left, ways, rests, takes, going):
    unmet = [rests[taker] - takes[taker] for taker in going]
    turns = whole_turns(left, [ways[taker] for taker in going], unmet)
    for taker in going:
        draw(left, ways[taker], turns)
        takes[taker] += turns


def take_one_turn(left, ways, rests, takes, going):
    still = []
    for taker in going:
        if takes[taker] < rests[taker] and all([left[reach] > 0 for reach in ways[taker]]):
            draw(left, ways[taker], 1)
            takes[taker] += 1
            still.append(taker)
    return still


def deal_turns(free, ways, rests):
    left = list(free)
    takes = [0] * len(ways)
    going = list(range(len(ways)))
    # Behind all whole turns the next one is none, so in it a taker is done: there are no more rounds than takers.
    while going:
        take_whole_turns(left, ways, rests, takes, going)
        going = take_one_turn(left, ways, rests, takes, going)
    return (takes, left)
