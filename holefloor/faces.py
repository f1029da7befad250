"""Faces: what one comes round, going along ties and turning at each place."""

from holefloor.orders import follower, least_first


def onward(web, order, end):
    """The end to which one comes from this one: its partner's follower."""
    return follower(web, order, end ^ 1)


def face_of(web, order, end):
    """The face that has the end."""
    face = [end]
    come = onward(web, order, end)
    while come != end:
        face.append(come)
        come = onward(web, order, come)
    return least_first(face)


def faces(web, order):
    """All faces, sorted."""
    told = [() for row in order if not row]
    gone = set()
    for end in range(2 * len(web[1])):
        if end not in gone:
            face = face_of(web, order, end)
            told.append(face)
            for come in face:
                gone.add(come)
    return sorted(told)
