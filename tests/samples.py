"""Rivers and rolls for the tests, slow tellings of the document, and checks that many functions have to stand."""

import copy
import random

from sluice import errors

MOST = 10 ** 12
GREATEST_TAKE = 10 ** 14
MANY_FIGURES = 10 ** 5000


def chain(length):
    return list(range(1, length)) + [-1]


def renumbered(below, step):
    """The same river, reach r called r * step modulo its length (step and length without a common divisor)."""
    length = len(below)
    other = [-1] * length
    for reach, into in enumerate(below):
        other[reach * step % length] = into if into == -1 else into * step % length
    return other


FORKED = [3, 3, 5, 5, -1, -1, 4, 2]

RIVERS = {
    "one reach": [-1],
    "two mouths": [-1, -1],
    "two in a row": [1, -1],
    "two in a row, upwards": [-1, 0],
    "forked, two mouths": FORKED,
    "short and long arms": [6, 0, 1, 6, 3, -1, 5, 5],
    "forty in a row": chain(40),
    "forty in a row, upwards": [-1] + list(range(39)),
    "forty in a row, numbered about": renumbered(chain(40), 7),
    "forty, a star": [17 if reach != 17 else -1 for reach in range(40)],
    "forty, a tree": [-1] + [(reach - 1) // 2 for reach in range(1, 40)],
    "forty, a tree, numbered about": renumbered([-1] + [(reach - 1) // 2 for reach in range(1, 40)], 11),
    "forty mouths": [-1] * 40,
    "forty, five mouths": renumbered([reach - 5 if reach >= 5 else -1 for reach in range(40)], 3),
}


def steps_down(below, reach):
    """The way, told by the words of the document once more, for the tests to compare with."""
    return [reach] if below[reach] == -1 else [reach] + steps_down(below, below[reach])


def slow_stretch(below, one):
    """The reaches of a licence, told by the words of the document once more."""
    way = steps_down(below, one[1])
    return way if one[2] == -1 else way[:way.index(one[2])]


def slow_natural(below, springs):
    ways = [steps_down(below, reach) for reach in range(len(below))]
    return [sum(spring for spring, way in zip(springs, ways) if reach in way) for reach in range(len(below))]


def slow_free(below, springs, roll, takes):
    free = slow_natural(below, springs)
    for one, take in zip(roll, takes):
        for reach in slow_stretch(below, one):
            free[reach] -= take
    return free


def slow_turns(free, ways, rests):
    """The takers played drop by drop."""
    left, takes, done = list(free), [0] * len(ways), [False] * len(ways)
    while not all(done):
        for taker, way in enumerate(ways):
            if done[taker]:
                continue
            if takes[taker] < rests[taker] and all(left[reach] > 0 for reach in way):
                takes[taker] += 1
                for reach in way:
                    left[reach] -= 1
            else:
                done[taker] = True
    return takes, left


def slow_wants(roll, calls):
    return [min(one[3], call) for one, call in zip(roll, calls)]


def slow_deal(below, springs, roll, calls):
    """The dealing played drop by drop."""
    free, wants, takes = slow_natural(below, springs), slow_wants(roll, calls), [0] * len(roll)
    for day in sorted({one[0] for one in roll}):
        group = [number for number, one in enumerate(roll) if one[0] == day]
        ways = [slow_stretch(below, roll[number]) for number in group]
        dealt, free = slow_turns(free, ways, [wants[number] for number in group])
        for number, take in zip(group, dealt):
            takes[number] = take
    return takes


def slow_shows(below, springs, roll, takes, number, reach):
    """Of each licence the last drop is looked at, which comes behind its others."""
    if reach not in slow_stretch(below, roll[number]):
        return False
    held = [other for other, one in enumerate(roll) if takes[other] > 0 and reach in slow_stretch(below, one)]
    if sum(takes[other] for other in held) != slow_natural(below, springs)[reach]:
        return False
    following = (roll[number][0], takes[number] + 1, number)
    return all((roll[other][0], takes[other], other) < following for other in held)


def slow_day(below, springs, roll, ponds, kept, calls, lets):
    """The day told once more by the words of the document; the dealing is looked at elsewhere."""
    left = list(kept)
    for place, reach, amount in lets:
        left[place] -= amount
    lessened = list(calls)
    for (number, room, leak), keeps in zip(ponds, left):
        lessened[number] = min(calls[number], room - keeps)
    takes = slow_deal(below, springs, roll, lessened)
    full = [keeps + takes[number] for (number, room, leak), keeps in zip(ponds, left)]
    lost = [drops * leak // 1000 for drops, (number, room, leak) in zip(full, ponds)]
    after = [drops - loss for drops, loss in zip(full, lost)]
    flows = slow_free(below, springs, roll, takes)
    for place, reach, amount in lets:
        way = steps_down(below, roll[ponds[place][0]][1])
        for passed in way if reach == -1 else way[:way.index(reach)]:
            flows[passed] += amount
    keepers = [number for number, room, leak in ponds]
    used = sum(take for number, take in enumerate(takes) if roll[number][2] == -1 and number not in keepers)
    used += sum(amount for place, reach, amount in lets if reach != -1)
    out = sum(flow for reach, flow in enumerate(flows) if below[reach] == -1)
    return takes, after, flows, (sum(springs), sum(kept), used, sum(after), sum(lost), out)


def check_dealt(case, below, springs, roll, calls, takes):
    """Promise 3: the one list of takes, known without dealing."""
    wants = slow_wants(roll, calls)
    case.assertEqual(len(takes), len(roll))
    case.assertGreaterEqual(min(slow_free(below, springs, roll, takes)), 0)
    for number, (take, want) in enumerate(zip(takes, wants)):
        case.assertTrue(0 <= take <= want, number)
        showing = [reach for reach in range(len(below)) if take < want
                   and slow_shows(below, springs, roll, takes, number, reach)]
        case.assertTrue(take == want or showing, number)


def seeded(seed):
    """The same numbers each time: the tests hang on no chance."""
    return random.Random(seed)


def some_river(dice, length):
    """Each reach flows into one drawn ahead of it, under numbers that are drawn, too."""
    numbers = dice.sample(range(length), length)
    below = [-1] * length
    for place in range(1, length):
        if dice.randrange(6):
            below[numbers[place]] = numbers[dice.randrange(max(0, place - 4), place)]
    return below


def some_licence(dice, below, days, most, gives_back):
    start = dice.randrange(len(below))
    lower = steps_down(below, start)[1:]
    back = dice.choice(lower) if gives_back and lower and dice.randrange(2) else -1
    return (dice.randrange(days), start, back, dice.choice((0, most, dice.randint(0, most), dice.randint(0, most))))


def some_roll(dice, below, count, days, most, gives_back=True):
    return [some_licence(dice, below, days, most, gives_back) for place in range(count)]


def some_amounts(dice, count, most):
    return [dice.choice((0, most, dice.randint(0, most), dice.randint(0, most))) for place in range(count)]


def some_day(dice, most, reaches=12, licences=12, days=4, gives_back=True):
    """A river, springs, a roll and calls, of sizes up to those told."""
    below = some_river(dice, dice.randint(1, reaches))
    roll = some_roll(dice, below, dice.randint(0, licences), days, most, gives_back)
    return below, some_amounts(dice, len(below), most), roll, some_amounts(dice, len(roll), most)


def some_ponds(dice, roll, most):
    """Up to ten ponds at licences that do not give back, and what they keep."""
    numbers = [number for number, one in enumerate(roll) if one[2] == -1]
    chosen = dice.sample(numbers, min(len(numbers), dice.randint(0, 10)))
    ponds = [(number, room, dice.choice((0, 1, 40, 999, 1000)))
             for number, room in zip(chosen, some_amounts(dice, 10, most))]
    return ponds, [dice.choice((0, room, dice.randint(0, room))) for number, room, leak in ponds]


def some_lets(dice, below, roll, ponds, kept, count):
    """Lets that none of the ponds refuses, to the start, to reaches on the way and to the mouth."""
    left, lets = list(kept), []
    for turn in range(count if ponds else 0):
        place = dice.randrange(len(ponds))
        amount = dice.choice((0, left[place], dice.randint(0, left[place])))
        left[place] -= amount
        start = roll[ponds[place][0]][1]
        lets.append((place, dice.choice([-1, start] + steps_down(below, start)), amount))
    return lets


def told_by(roll):
    """All that a Roll tells of itself."""
    return roll.today(), roll.roll(), roll.holders(), roll.deeds()


def try_some_deed(dice, roll, below, lapses=1):
    """One deed, drawn so that it is often refused; what is refused is let be."""
    number, holder, to = dice.randint(-1, 9), dice.choice("abc"), dice.choice("abcD")
    amount, start = dice.choice((0, 1, 2, 5, 40, MOST, MOST + 1)), dice.randint(-1, len(below))
    if 0 <= number < len(roll.roll()) and dice.randrange(4):
        holder = roll.holders()[number]
    back = dice.choice([-1, 2] + (steps_down(below, start) if 0 <= start < len(below) else []))
    numbers = [dice.choice((0, 30, 50, MOST)) for place in range(len(roll.roll()) + (dice.randrange(8) == 0))]
    deeds = [
        lambda: roll.turn(), lambda: roll.file(to, start, amount, back), lambda: roll.sell(number, holder, to),
        lambda: roll.part(number, holder, amount, to), lambda: roll.drop(number, holder),
        lambda: roll.move(number, holder, start), lambda: roll.lapse(numbers),
    ]
    try:
        dice.choices(deeds, (6, 6, 2, 12, 1, 3, lapses))[0]()
    except errors.SluiceError:
        pass


def check_refused(case, refusal, ask, *handed):
    """It is refused with just this class, and the handed-in stays as it was."""
    as_it_was = copy.deepcopy(handed)
    with case.assertRaises(errors.SluiceError) as caught:
        ask(*handed)
    case.assertIs(type(caught.exception), refusal)
    case.assertIsInstance(caught.exception, ValueError)
    case.assertEqual(handed, as_it_was)
    others = [one for one in vars(errors).values() if isinstance(one, type) and isinstance(caught.exception, one)]
    case.assertCountEqual(others, [errors.SluiceError, refusal])


def spoil(told):
    """All that an asker can do to what is its own: the lists in it, at whatever depth."""
    if isinstance(told, (list, tuple)):
        for part in told:
            spoil(part)
    if isinstance(told, list):
        told.append(99)
        told[0] = -99


def check_apart(case, ask, *handed):
    """Promise 2 of any kind of answer: neither what is handed in nor what is told hangs on the other."""
    as_it_was = copy.deepcopy(handed)
    told = ask(*handed)
    as_told = copy.deepcopy(told)
    case.assertEqual(handed, as_it_was)
    spoil(told)
    case.assertEqual(handed, as_it_was)
    again = ask(*handed)
    case.assertEqual(again, as_told)
    spoil(handed)
    case.assertEqual(again, as_told)
    case.assertEqual(ask(*as_it_was), as_told)


def check_own(case, ask, *handed):
    """Promise 2: the handed-in stays as it was, the told list is the asker's own, asked again it is the same."""
    as_it_was = copy.deepcopy(handed)
    told = ask(*handed)
    case.assertIs(type(told), list)
    as_told = list(told)
    case.assertEqual(handed, as_it_was)
    told.append(99)
    told[0] = -99
    case.assertEqual(handed, as_it_was)
    case.assertEqual(ask(*handed), as_told)
    told.clear()
    case.assertEqual(handed, as_it_was)
    again = ask(*handed)
    case.assertEqual(again, as_told)
    for one in handed:
        if isinstance(one, list):
            one.clear()
    case.assertEqual(again, as_told)
    case.assertEqual(ask(*as_it_was), as_told)
