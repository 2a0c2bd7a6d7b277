"""Mending: the lines that a spoilt one may have been."""

from handboard.lines import check_sum, fitting_worth, is_line, sign_of, worth_of


def changed_lines(signs):
    """The lines that come of these signs by another sign at one place."""
    total = check_sum(signs)
    lines = []
    for place, sign in enumerate(signs, start=1):
        worth = worth_of(sign)
        fitting = fitting_worth(total - worth * place, place)
        if fitting != worth:
            lines.append(signs[:place - 1] + [sign_of(fitting)] + signs[place:])
    return lines


def exchanged_lines(signs):
    """The lines that come of these signs by two different neighbours exchanged."""
    lines = []
    for index in range(len(signs) - 1):
        exchanged = signs[:index] + [signs[index + 1], signs[index]] + signs[index + 2:]
        if signs[index] != signs[index + 1] and is_line(exchanged):
            lines.append(exchanged)
    return lines


def mended_lines(signs):
    """The lines that these 2 to 36 signs may have been, in the order of bytes."""
    # None comes twice: no two of them differ from the signs at the same places.
    return sorted(changed_lines(signs) + exchanged_lines(signs))
