"""Shows wishes, pairings and partings as texts."""

from lastpairs.rings import all_rings


def show_wishes(wishes):
    """The text of wishes."""
    lines = []
    for name, some in zip(wishes.names, wishes.lists):
        lines.append(" ".join([name + ":"] + [wishes.names[other] for other in some]))
    return "\n".join(lines)


def show_pairing(wishes, pairing):
    """The text of a pairing."""
    return _show_rows(wishes, pairing)


def show_parting(wishes, parting):
    """The text of a parting."""
    return _show_rows(wishes, [ring for ring in all_rings(parting) if len(ring) > 1])


def _show_rows(wishes, rows):
    return ", ".join([" ".join([wishes.names[person] for person in row]) for row in rows])
