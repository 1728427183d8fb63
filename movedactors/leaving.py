"""What arrows leave: by which live ports an actor may go on, and where it and its children stand then."""

from movedactors.controls import is_control, started
from movedactors.edges import arrows_at, behind, reached
from movedactors.errors import NoControl


def live_ports(edition, control):
    """The list of the live ports at a control, in the order of the book."""
    ports = edition.mode(control[0], control[1])[3]
    known = [kind[1] for kind in edition.kinds()]
    return [port for port in edition.book().ports() if port in ports and port in known]


def by_ports(edition, control, told):
    """The table of the list of what is told of the arrows of a control, each once, for each of its live ports."""
    found = {port: {} for port in live_ports(edition, control)}
    for arrow in arrows_at(edition, control):
        found[edition.kind(arrow[1])[1]][told(arrow)] = True
    return {port: list(found[port]) for port in found}


def goals(edition, control):
    """The table of the controls to which the arrows of a control lead, None where one ends, by live ports."""
    return by_ports(edition, control, lambda arrow: behind(arrow))


def leavings(edition, control):
    """The table of the tuples of the controls that the arrows of a control leave, by live ports."""
    return by_ports(edition, control, lambda arrow: left_by(edition, arrow))


def left_by(edition, arrow):
    """The tuple of the controls that an arrow leaves, each as often as it comes."""
    goal = behind(arrow)
    children = [started(edition, make[1], make[2])[0] for make in arrow[3][0]]
    return tuple(children if goal is None else [goal] + children)


def reached_ones(change):
    """The list of the reached controls of all roles of the old edition, in order."""
    return [control for role in change.old().roles() for control in reached(change.old(), role[0])]


def waiting_ones(change, known):
    """The list of the controls that wait among known ones."""
    return [control for control in known if change.row(control) is None]


def require_reached(change, control):
    """Raises NoControl(control) if a control, which may be anything, is not one of the old edition that is reached."""
    if not is_control(change.old(), control) or control not in reached(change.old(), control[0]):
        raise NoControl(control)
