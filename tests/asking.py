"""How the tests ask the program, call by call."""

from squarepairs.others import answers

from tests.reckoning import BEGIN, GREATEST

NOT_ALLOWED = (0, 1, 4, 9, 16, 25, 36, 49, 61, 62, 63, 64, 100, GREATEST - 1, GREATEST)
TOO_GREAT = (13, 14, 100, GREATEST)


class FixedList(list):
    def refuse(self, *given, **named):
        raise AssertionError("what is handed in was changed")

    append = extend = insert = pop = remove = clear = sort = reverse = refuse
    __setitem__ = __delitem__ = __iadd__ = __imul__ = refuse


def split_answers(told):
    parts = []
    at = 0
    while at < len(told):
        parts.append(told[at + 1:at + 1 + told[at]])
        if len(parts[-1]) != told[at]:
            raise ValueError("fewer numbers than told")
        at += 1 + told[at]
    return parts


def ask(*calls):
    return split_answers(answers([number for call in calls for number in call]))


def answer_behind(n, *calls):
    return ask((BEGIN, n), *calls)[1:]
