"""The calls about moments and about going back: moment, lose, moments, back."""

from cellmoments.cell import is_name
from cellmoments.refusals import BAD_NAME, BAD_POSITION, NO_MOMENT


def remember_moment(history, name):
    if not is_name(name):
        return BAD_NAME
    history.moments[name] = history.last_position()
    return history.last_position()


def lose_moment(history, name):
    if name not in history.moments:
        return NO_MOMENT
    history.moments.pop(name)
    return 0


def tell_moments(history):
    told = [len(history.moments)]
    for name in sorted(history.moments):
        told.extend([name, history.moments[name]])
    return told


def go_back(history, p):
    if not history.has_position(p):
        return BAD_POSITION
    gone = history.last_position() - p
    history.cut_behind(p)
    return gone
