"""The reading of forms, octet by octet."""

# A sign is told by its place in here.
SIGNS = "abcdefghijklmnopqrstuvwxyz0123456789-_ "

# The most signs of a text, and the most parts of a sequence.
MOST_PARTS = 4095

# The most sequences one within another.
MOST_DEEP = 40

# The most octets that an integer needs.
MOST_FIGURES = 200

# The kinds of things, as their first octets tell them.
NOTHING = 0
NUMBER = 1
BELOW = 2
TEXT = 3
SEQUENCE = 4


class Reader:
    """One form that is being read, of any thing or of a row.

    The octets that can come next are always all those from a least to a
    greatest one. The least one leads to the end of the form by the fewest
    octets, so that what is missing is found by taking it again and again.
    """

    def __init__(self, of_row):
        self.of_row = of_row
        self.stage = "kind"
        self.kind = NOTHING
        self.length = 0
        self.figures = 0
        self.number = 0
        self.signs = []
        self.around = []
        self.ended = False
        self.thing = None

    def bounds(self):
        """The least and the greatest octet that can come next."""
        if self.stage == "kind":
            return self.kind_bounds()
        if self.stage == "length":
            return self.length_bounds()
        if self.stage == "figures":
            return self.figure_bounds()
        return 0, len(SIGNS) - 1

    def kind_bounds(self):
        """Those that tell a kind: a row begins with a sequence, and in it with a text."""
        if self.of_row and not self.around:
            return SEQUENCE, SEQUENCE
        if self.of_row and len(self.around) == 1 and not self.around[0][1]:
            return TEXT, TEXT
        if len(self.around) == MOST_DEEP:
            return NOTHING, TEXT
        return NOTHING, SEQUENCE

    def length_bounds(self):
        """Those that tell how many octets a number needs."""
        if self.kind in (NUMBER, BELOW):
            return 0, MOST_FIGURES
        # A row has one part at least, any other sequence may have none.
        return (1 if self.of_row and not self.around else 0), 2

    def figure_bounds(self):
        """Those of a number: its first one is not 0, or it would need fewer."""
        if self.figures:
            return 0, 255
        if self.kind in (TEXT, SEQUENCE) and self.length == 2:
            return 1, MOST_PARTS // 256
        return 1, 255

    def take(self, octet):
        """Goes on by an octet that can come next."""
        if self.stage == "kind":
            self.take_kind(octet)
        elif self.stage == "length":
            self.take_length(octet)
        elif self.stage == "figures":
            self.take_figure(octet)
        else:
            self.take_sign(octet)

    def take_kind(self, octet):
        self.kind = octet
        self.stage = "length"
        if octet == NOTHING:
            self.end_thing(None)

    def take_length(self, octet):
        self.length = octet
        self.figures = 0
        self.number = 0
        self.stage = "figures"
        if octet == 0:
            self.end_number()

    def take_figure(self, octet):
        self.number = self.number * 256 + octet
        self.figures += 1
        if self.figures == self.length:
            self.end_number()

    def take_sign(self, octet):
        self.signs.append(SIGNS[octet])
        if len(self.signs) == self.number:
            self.end_thing("".join(self.signs))

    def end_number(self):
        """A number is whole: it is the thing, or how many signs or parts come."""
        if self.kind == NUMBER:
            self.end_thing(self.number)
        elif self.kind == BELOW:
            self.end_thing(-1 - self.number)
        elif self.kind == TEXT:
            self.begin_text()
        else:
            self.begin_sequence()

    def begin_text(self):
        self.signs = []
        self.stage = "signs"
        if self.number == 0:
            self.end_thing("")

    def begin_sequence(self):
        self.stage = "kind"
        if self.number == 0:
            self.end_thing(())
        else:
            self.around.append((self.number, []))

    def end_thing(self, thing):
        """A thing is whole, and with it each sequence whose last part it is."""
        self.stage = "kind"
        while self.around:
            many, parts = self.around[-1]
            parts.append(thing)
            if len(parts) < many:
                return
            self.around.pop()
            thing = tuple(parts)
        self.thing = thing
        self.ended = True
