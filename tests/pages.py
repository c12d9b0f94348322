"""Plain pages that the tests write and read themselves, and a plain journal and book of lists."""

SIGNS = "abcdefghijklmnopqrstuvwxyz0123456789-_ "


def number(many):
    octets = []
    while many:
        many, rest = divmod(many, 256)
        octets.insert(0, rest)
    return [len(octets)] + octets


def octets_of(thing):
    """The form of a thing, by the words of the document."""
    if thing is None:
        return [0]
    if isinstance(thing, str):
        return [3] + number(len(thing)) + [SIGNS.index(sign) for sign in thing]
    if isinstance(thing, int):
        return [1] + number(thing) if thing >= 0 else [2] + number(-1 - thing)
    return [4] + number(len(thing)) + sum([octets_of(part) for part in thing], [])


def page_of(rows, torn=()):
    """The octets of rows, one behind another, and what hangs behind them."""
    return tuple(sum([octets_of(row) for row in rows], []) + list(torn))


def read_number(octets, at):
    many = octets[at]
    told = octets[at + 1:at + 1 + many]
    if len(told) < many:
        raise IndexError
    return sum(octet * 256 ** (many - 1 - place) for place, octet in enumerate(told)), at + 1 + many


def read_thing(octets, at):
    """What a form tells, and the place behind it; IndexError if it is not whole."""
    kind = octets[at]
    if kind == 0:
        return None, at + 1
    many, at = read_number(octets, at + 1)
    if kind in (1, 2):
        return (many if kind == 1 else -1 - many), at
    if kind == 3:
        if len(octets) < at + many:
            raise IndexError
        return "".join([SIGNS[octet] for octet in octets[at:at + many]]), at + many
    parts = []
    for _ in range(many):
        part, at = read_thing(octets, at)
        parts.append(part)
    return tuple(parts), at


def whole_rows(octets):
    """The rows that stand whole, and the place behind them."""
    rows, behind = [], 0
    while True:
        try:
            row, behind = read_thing(octets, behind)
        except IndexError:
            return rows, behind
        rows.append(row)


def read_pages(pages):
    """(page, term, rows, behind) of the page that counts, by the words of the document; None if none does."""
    found = None
    for at in (1, 0):
        rows, behind = whole_rows(pages[at])
        if rows and len(rows) - 1 >= rows[0][2] and (found is None or rows[0][1] >= found[1]):
            found = (at, rows[0][1], tuple(rows[1:]), behind)
    return found


class PlainJournal:
    """A journal kept in lists: what was written, how much of it is kept, and what that tells."""

    def __init__(self):
        self.pages, self.page, self.kept = [page_of([("page", 0, 0)]), ()], 0, None
        self.kept = len(self.pages[0])

    def lay(self, row):
        self.pages[self.page] += page_of([row])
        return len(whole_rows(self.pages[self.page])[0]) - 1

    def keep(self):
        self.kept = len(self.pages[self.page])

    def loose(self):
        return len(self.pages[self.page]) - self.kept

    def begin(self, rows):
        term = whole_rows(self.pages[self.page])[0][0][1]
        self.page, self.kept = 1 - self.page, 0
        self.pages[self.page] = page_of([("page", term + 1, len(rows))] + list(rows))

    def cut(self, left):
        self.pages[self.page] = self.pages[self.page][:self.kept + left]
        self.page, _, _, self.kept = read_pages(self.pages)
        self.pages[self.page] = self.pages[self.page][:self.kept]

    def told(self):
        """All that a journal tells: its pages, which is written to, its term and rows, and how much is kept."""
        rows = whole_rows(self.pages[self.page])[0]
        return tuple(self.pages), self.page, rows[0][1], tuple(rows[1:]), self.kept

    def cuts(self):
        """The rows that stand behind each cut, those alike side by side told once."""
        found = []
        for left in range(self.loose() + 1):
            pages = list(self.pages)
            pages[self.page] = pages[self.page][:self.kept + left]
            rows = read_pages(pages)[2]
            if not found or found[-1] != rows:
                found.append(rows)
        return tuple(found)
