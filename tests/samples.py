"""Rivers for the tests, and one check that all functions which tell lists have to stand."""

import copy


def chain(length):
    return list(range(1, length)) + [-1]


def renumbered(below, step):
    """The same river, reach r called r * step modulo its length (step and length without a common divisor)."""
    length = len(below)
    other = [-1] * length
    for reach, into in enumerate(below):
        other[reach * step % length] = into if into == -1 else into * step % length
    return other


FORKED = [3, 3, 5, 5, -1, -1, 4, 2]

RIVERS = {
    "one reach": [-1],
    "two mouths": [-1, -1],
    "two in a row": [1, -1],
    "two in a row, upwards": [-1, 0],
    "forked, two mouths": FORKED,
    "short and long arms": [6, 0, 1, 6, 3, -1, 5, 5],
    "forty in a row": chain(40),
    "forty in a row, upwards": [-1] + list(range(39)),
    "forty in a row, numbered about": renumbered(chain(40), 7),
    "forty, a star": [17 if reach != 17 else -1 for reach in range(40)],
    "forty, a tree": [-1] + [(reach - 1) // 2 for reach in range(1, 40)],
    "forty, a tree, numbered about": renumbered([-1] + [(reach - 1) // 2 for reach in range(1, 40)], 11),
    "forty mouths": [-1] * 40,
    "forty, five mouths": renumbered([reach - 5 if reach >= 5 else -1 for reach in range(40)], 3),
}


def steps_down(below, reach):
    """The way, told by the words of the document once more, for the tests to compare with."""
    return [reach] if below[reach] == -1 else [reach] + steps_down(below, below[reach])


def check_own(case, ask, *handed):
    """Promise 2: the handed-in stays as it was, the told list is the asker's own, asked again it is the same."""
    as_it_was = copy.deepcopy(handed)
    told = ask(*handed)
    case.assertIs(type(told), list)
    as_told = list(told)
    case.assertEqual(handed, as_it_was)
    told.append(99)
    told[0] = -99
    case.assertEqual(handed, as_it_was)
    case.assertEqual(ask(*handed), as_told)
    told.clear()
    case.assertEqual(handed, as_it_was)
    again = ask(*handed)
    case.assertEqual(again, as_told)
    for one in handed:
        if isinstance(one, list):
            one.clear()
    case.assertEqual(again, as_told)
    case.assertEqual(ask(*as_it_was), as_told)
