"""How the state of a name changed for a reader, deed by deed."""

from backissues.knowledge import state_and_held


def history(book, reader, name):
    rows = [(0,) + state_and_held(book.shelf(reader, 0), name)]
    for which in range(1, book.deeds() + 1):
        now = state_and_held(book.shelf(reader, which), name)
        if now != rows[-1][1:]:
            rows.append((which,) + now)
    return tuple(rows)
