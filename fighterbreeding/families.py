"""Families: who stems from whom."""


# Parents always have a less number than their child, so one walk downwards meets all.
def family_of(born, number):
    family = {number: True}
    for at in range(number, -1, -1):
        if at in family:
            for parent in born[at].parents:
                family[parent] = True
    return family


def forebears(born, number):
    return [one for one in sorted(family_of(born, number)) if one != number]


def in_common(born, number, other):
    others = family_of(born, other)
    return [one for one in sorted(family_of(born, number)) if one in others]
