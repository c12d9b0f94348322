"""A plain book of news that the tests lead themselves, and rows of news that are drawn."""


class PlainBook:
    """What is so behind rows of news, kept in lists that change, by the words of the document."""

    def __init__(self, house, end):
        self.now, self.end = 0, end
        self.rooms = list(house[0])
        self.passages = [[tail, head, length, width, set(shut)] for tail, head, length, width, shut in house[1]]
        self.smoke = list(house[2])
        self.words, self.places, self.beats, self.urgencies, self.steps = [], [], [], [], []

    def in_smoke(self, room, beat):
        return self.smoke[room] is not None and self.smoke[room] <= beat

    def in_rooms(self):
        return [at for at, word in enumerate(self.words) if word == "here" and self.beats[at] == self.now]

    def why_not(self, row):
        """The first word of the list in the document that is so, None if the row can be."""
        word, one = row[0], row[1]
        if word in ("found", "smoke", "clear") and not (one < len(self.rooms) and self.rooms[one] == 0):
            return "room"
        if word in ("shut", "open", "width") and not one < len(self.passages):
            return "passage"
        beats = {"smoke": row[2:], "shut": row[2:], "open": row[2:]}.get(word, ())
        if [beat for beat in beats if not self.now <= beat <= self.end] or list(beats) != sorted(beats):
            return "beat"
        if word == "beat" and self.now == self.end:
            return "beat"
        if word in ("found", "smoke") and self.in_smoke(one, self.now) or word == "clear" and self.smoke[one] is None:
            return "smoke"
        if word == "found" and len(self.words) == 60:
            return "person"
        return self.why_no_steps(one, word == "beat") if word in ("told", "beat") else None

    def why_no_steps(self, steps, all_of_them):
        if len(steps) != len(self.words):
            return "person"
        here = self.in_rooms()
        for person, step in enumerate(steps):
            if step is None and all_of_them and person in here or step is not None and person not in here:
                return "step"
            if step is not None and step != "stand":
                if step >= len(self.passages):
                    return "passage"
                if self.passages[step][0] != self.places[person] or self.now in self.passages[step][4]:
                    return "step"
        for at, passage in enumerate(self.passages):
            if len([step for step in steps if step == at]) > passage[3]:
                return "width"
        return None

    def tell(self, row):
        word, one = row[0], row[1]
        if word == "found":
            for kept, part in ((self.words, "here"), (self.places, one), (self.beats, self.now), (self.urgencies, row[2]),
                               (self.steps, None)):
                kept.append(part)
        elif word == "smoke":
            self.smoke[one] = row[2]
        elif word == "clear":
            self.smoke[one] = None
        elif word == "shut":
            self.passages[one][4] |= set(range(row[2], row[3] + 1))
        elif word == "open":
            self.passages[one][4] -= set(range(row[2], row[3] + 1))
        elif word == "width":
            self.passages[one][3] = row[2]
        elif word == "told":
            self.steps = list(one)
        else:
            self.go(one)
        self.lose()

    def go(self, steps):
        for person in self.in_rooms():
            if steps[person] == "stand":
                self.beats[person] += 1
            else:
                _, self.places[person], length, _, _ = self.passages[steps[person]]
                self.beats[person] += length
        self.now += 1
        self.steps = [None] * len(steps)
        for person in self.in_rooms():
            if self.rooms[self.places[person]]:
                self.words[person] = "out"

    def lose(self):
        for person, word in enumerate(self.words):
            if word == "here" and self.in_smoke(self.places[person], self.beats[person]):
                self.words[person] = "lost"
                self.steps[person] = None

    def state(self):
        passages = tuple([(tail, head, length, width, tuple(sorted(shut))) for tail, head, length, width, shut in self.passages])
        people = tuple(zip(self.words, self.places, self.beats, self.urgencies))
        return self.now, self.end, (tuple(self.rooms), passages, tuple(self.smoke)), people, tuple(self.steps)


def draw_steps(draw, book, wild):
    """Steps by person, most of which can be; some wild ones."""
    steps = []
    for person in range(len(book.words)):
        ways = [at for at, passage in enumerate(book.passages) if passage[0] == book.places[person] and book.now not in passage[4]]
        step = draw.choice(ways + ["stand"]) if person in book.in_rooms() else None
        if draw.random() < wild:
            step = draw.choice((None, "stand", 0, len(book.passages), draw.randrange(9)))
        steps.append(step)
    for at, passage in enumerate(book.passages):
        if draw.random() > wild:
            for person in [one for one, step in enumerate(steps) if step == at][passage[3]:]:
                steps[person] = "stand"
    return tuple(steps)


def draw_news(draw, book, wild=0.1):
    """A row of news that most probably can be told a book now."""
    rooms, passages = len(book.rooms) + (draw.random() < wild), max(1, len(book.passages) + (draw.random() < wild))
    low, high = max(0, book.now - (draw.random() < wild)), min(59, book.end + (draw.random() < wild))
    beats = [draw.randint(low, high), draw.randint(low, high)]
    if draw.random() > wild:
        beats.sort()
    inside = [room for room, kind in enumerate(book.rooms) if kind == 0] or [0]
    room = draw.randrange(rooms) if draw.random() < wild else draw.choice(inside)
    word = draw.choice(("found", "found", "found", "smoke", "clear", "shut", "open", "width", "told", "told", "beat", "beat", "beat"))
    if word in ("told", "beat"):
        steps = draw_steps(draw, book, wild)
        if word == "told":
            steps = tuple([None if draw.random() < 0.2 else step for step in steps])
        return word, steps[:-1] if draw.random() < wild / 4 else steps
    return {"found": (word, room, draw.randrange(10)), "smoke": (word, room, beats[1]), "clear": (word, room),
            "shut": (word, draw.randrange(passages)) + tuple(beats), "open": (word, draw.randrange(passages)) + tuple(beats),
            "width": (word, draw.randrange(passages), draw.randrange(4))}[word]
