"""Floors with crossed ties, along which left becomes right: states, crossed faces and the lack."""

from holefloor.holes import lacking
from holefloor.orders import follower, forerunner


def crossed_onward(web, order, crossings, state):
    """The state to which one comes from this one."""
    partner = state[0] ^ 1
    if hand_beyond(crossings, state) == 0:
        return (follower(web, order, partner), 0)
    return (forerunner(web, order, partner), 1)


def back_of(web, crossings, state):
    """The state in which one goes the same tie the other way about."""
    return (state[0] ^ 1, 1 - hand_beyond(crossings, state))


def hand_beyond(crossings, state):
    """The hand with which one comes out of the state's tie."""
    end, hand = state
    return 1 - hand if crossings[end // 2] == 1 else hand


def round_from(web, order, crossings, state):
    """The states through which one comes, begun with this one."""
    come_through = [state]
    come = crossed_onward(web, order, crossings, state)
    while come != state:
        come_through.append(come)
        come = crossed_onward(web, order, crossings, come)
    return tuple(come_through)


def crossed_faces(web, order, crossings):
    """All crossed faces, sorted."""
    told = [() for row in order if not row]
    gone = set()
    # By rising ends of hand 0 each face is first come to at the least such state of both its rounds.
    for end in range(2 * len(web[1])):
        if (end, 0) not in gone:
            face = round_from(web, order, crossings, (end, 0))
            told.append(face)
            for state in face:
                gone.add(state)
                gone.add(back_of(web, crossings, state))
    return sorted(told)


def lack(web, order, crossings):
    """What the floor lacks: twice the holes where no tie is crossed."""
    return lacking(web, len(crossed_faces(web, order, crossings)))
