"""A reader goes through the tokens of a text and refuses those that do not fit."""

from needonce.errors import Unexpected


class Reader:
    """A row of tokens and the place that the reading has reached. The end token stays in front at the end."""

    def __init__(self, row):
        self.row = row
        self.at = 0

    def refuse(self):
        """The token in front is not allowed here."""
        _, _, row, column = self.row[self.at]
        raise Unexpected(row, column)

    def front(self):
        """The text of the token in front. No two kinds of tokens share a text."""
        return self.row[self.at][1]

    def front_kind(self):
        return self.row[self.at][0]

    def skip(self, text):
        """Goes on behind a sign or a keyword."""
        if self.row[self.at][1] != text:
            self.refuse()
        self.at += 1

    def skip_if(self, text):
        """Goes on behind a sign or a keyword if it is in front. Tells whether it was."""
        if self.row[self.at][1] != text:
            return False
        self.at += 1
        return True

    def take(self, kind):
        """Returns the text of a token of this kind and goes on."""
        found, text, _, _ = self.row[self.at]
        if found != kind:
            self.refuse()
        self.at += 1
        return text

    def take_names(self):
        """Returns the tuple of the names in front; there may be none."""
        names = []
        while self.front_kind() == "name":
            names.append(self.take("name"))
        return tuple(names)

    def check_end(self):
        if self.front_kind() != "end":
            self.refuse()


def read_block(reader, read_member, least=0):
    """Returns the tuple of the members of a block, at least so many. Between semicolons a member may be left out."""
    members = []
    reader.skip("{")
    while reader.front() != "}":
        if reader.front() != ";":
            members.append(read_member(reader))
        if not reader.skip_if(";"):
            break
    if len(members) < least:
        reader.refuse()
    reader.skip("}")
    return tuple(members)
