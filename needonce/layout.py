"""Layout: the braces and semicolons that a text leaves out."""

BLOCK_KEYWORDS = ("where", "let", "of")

# The tokens that push the marker of the same name.
OPENERS = ("(", "[", "{", "let", "case", "if")

# The tokens that close up to a marker.
CLOSERS = {")": "(", "]": "[", "}": "{", "in": "let", "of": "case", "then": "if", "else": "then"}


def layout(row):
    """Returns the tokens of a text with the tokens that layout adds."""
    return _arranged(row, (), True)


def layout_in_braces(row):
    """Returns what layout makes of the tokens if the whole text stands in explicit braces, without these braces."""
    return _arranged(row, (("marker", "{"),), False)


def _arranged(row, contexts, block_expected):
    work = Arranger(contexts)
    last_row = 0
    for token in row:
        kind, text, token_row, _ = token
        opened = block_expected and text != "{" and work.open_block(token)
        if kind == "end":
            work.close_all(token)
        elif token_row != last_row and not opened:
            work.begin_row(token)
        work.meet(token)
        block_expected = kind == "keyword" and text in BLOCK_KEYWORDS
        last_row = token_row
    return work.arranged


class Arranger:
    """The stack of contexts, ("block", column) or ("marker", name), and the tokens that were arranged so far."""

    def __init__(self, contexts):
        self.contexts = list(contexts)
        self.arranged = []

    def add_sign(self, sign, token):
        """Adds a sign at the place of the token before which it stands."""
        self.arranged.append(("sign", sign, token[2], token[3]))

    def innermost_column(self):
        """The column of the innermost block, whatever markers stand above it."""
        for word, told in reversed(self.contexts):
            if word == "block":
                return told
        return 0

    def top_column(self):
        """The column of the block on top; 0, less than all columns, if there is none on top."""
        if self.contexts and self.contexts[-1][0] == "block":
            return self.contexts[-1][1]
        return 0

    def open_block(self, token):
        """Opens a block before the token; one that cannot hold the token is closed at once. True if it stays open."""
        self.add_sign("{", token)
        if token[0] != "end" and token[3] > self.innermost_column():
            self.contexts.append(("block", token[3]))
            return True
        self.add_sign("}", token)
        return False

    def close_block(self, token):
        self.contexts.pop()
        self.add_sign("}", token)

    def close_all(self, token):
        while self.contexts:
            if self.top_column() > 0:
                self.close_block(token)
            else:
                self.contexts.pop()

    def begin_row(self, token):
        """What the column of the first token of a row means for the blocks on top."""
        while self.top_column() > token[3]:
            self.close_block(token)
        if self.top_column() == token[3]:
            self.add_sign(";", token)

    def close_up_to(self, markers, token):
        """If the innermost marker is one of these, closes the blocks above it. Tells whether it is."""
        at = len(self.contexts) - 1
        while at >= 0 and self.contexts[at][0] == "block":
            at -= 1
        if at < 0 or self.contexts[at][1] not in markers:
            return False
        while len(self.contexts) > at + 1:
            self.close_block(token)
        return True

    def meet(self, token):
        """Takes the token itself, after its effect on the stack."""
        text = token[1]
        if text == ",":
            self.close_up_to(("(", "["), token)
        if text in CLOSERS and self.close_up_to((CLOSERS[text],), token):
            self.contexts.pop()
            if text == "then":
                self.contexts.append(("marker", "then"))
        if text in OPENERS:
            self.contexts.append(("marker", text))
        self.arranged.append(token)
