"""Writes a program as a text whose blocks stand in rows or in braces, as chance has it.

A block in rows ends where layout sees its end: at a row further to the left, or at a token that closes it. So the
writer is told at each place whether what follows will close a block (ends): a semicolon does not.
"""

from needonce.printing import print_declaration, print_expr, print_kind


class RowWriter:
    def __init__(self, chance):
        self.chance = chance
        self.pieces = []
        # Whether the next word must stand just where the writer is: the first one of a member in rows.
        self.fixed = False
        self.column = 1

    def program(self, program):
        self.block(program, self.declaration, 0, True)
        return "".join(self.pieces)

    def put(self, text):
        self.pieces.append(text)
        self.column += len(text)

    def new_row(self, column):
        for _ in range(self.chance.choice((1, 1, 1, 2))):
            if self.chance.random() < 0.1:
                self.pieces.append(" -- case of { ( let")
            self.pieces.append("\n")
        self.pieces.append(" " * (column - 1))
        self.column = column

    def word(self, text, block):
        """A word, further to the right than the block around it, of which the column is given."""
        if self.fixed:
            self.fixed = False
        elif self.chance.random() < 0.06:
            self.new_row(block + self.chance.randint(1, 5))
        else:
            self.put(" " * self.chance.choice((1, 1, 1, 2)))
        self.put(text)

    def words(self, text, block):
        for word in text.split(" "):
            self.word(word, block)

    def block(self, members, write, block, ends):
        """Writes the members by write(member, column of the block, ends)."""
        if not members or not ends or self.chance.random() < 0.3:
            self.block_in_braces(members, write, block)
        else:
            self.block_in_rows(members, write, block)

    def block_in_braces(self, members, write, block):
        self.word("{", block)
        for at, member in enumerate(members):
            if at > 0 or self.chance.random() < 0.1:
                self.word(";", block)
            write(member, block, at == len(members) - 1)
        self.word("}", block)

    def block_in_rows(self, members, write, block):
        self.new_row(block + self.chance.randint(1, 4))
        if self.chance.random() < 0.3 and self.column > 1:
            self.put(" ")
        column = self.column
        self.fixed = True
        for at, member in enumerate(members):
            semicolon = at < len(members) - 1 and self.chance.random() < 0.2
            write(member, column, not semicolon)
            if semicolon:
                self.word(";", column)
            elif at < len(members) - 1:
                self.new_row(column)
                self.fixed = True

    def expr(self, tree, block, ends):
        kind = tree[0]
        if kind == "lam":
            self.words("\\ " + " ".join(tree[1]) + " ->", block)
            self.expr(tree[2], block, ends)
        elif kind == "let":
            self.word("let", block)
            self.block(tree[1], self.local, block, True)
            self.word("in", block)
            self.expr(tree[2], block, ends)
        elif kind == "if":
            self.word("if", block)
            self.expr(tree[1], block, True)
            self.word("then", block)
            self.expr(tree[2], block, True)
            self.word("else", block)
            self.expr(tree[3], block, ends)
        elif kind == "case":
            self.word("case", block)
            self.expr(tree[1], block, True)
            self.word("of", block)
            self.block(tree[2], self.alternative, block, ends)
        elif kind == "note":
            self.words(f"note {tree[1]}", block)
            self.expr(tree[2], block, ends)
        else:
            self.operand(tree, block)

    def operand(self, tree, block):
        """An expression without keywords in front; its parts stand in parentheses."""
        if tree[0] == "list":
            self.word("[", block)
            for at, member in enumerate(tree[1]):
                if at > 0:
                    self.word(",", block)
                self.expr(member, block, True)
            self.word("]", block)
        elif tree[0] == "app":
            self.in_parentheses(tree[1], block)
            self.in_parentheses(tree[2], block)
        elif tree[0] == "op":
            self.in_parentheses(tree[2], block)
            self.word(tree[1], block)
            self.in_parentheses(tree[3], block)
        else:
            self.word(print_expr(tree), block)

    def in_parentheses(self, tree, block):
        self.word("(", block)
        self.expr(tree, block, True)
        self.word(")", block)

    def alternative(self, alternative, block, ends):
        pattern, body = alternative
        if pattern[0] == "pcon" and pattern[1] == "Nil" and not pattern[2]:
            self.word("[ ]", block)
        elif pattern[0] == "pcon" and pattern[1] == "Cons" and len(pattern[2]) == 2:
            self.words(f"{pattern[2][0]} : {pattern[2][1]}", block)
        elif pattern[0] == "pcon":
            self.words(" ".join([pattern[1], *pattern[2]]), block)
        else:
            self.word(str(pattern[1]), block)
        self.word("->", block)
        self.expr(body, block, ends)

    def local(self, declaration, block, ends):
        if declaration[0] == "sign":
            self.words(print_declaration(declaration), block)
        else:
            self.method(declaration[1:], block, ends)

    def method(self, method, block, ends):
        name, parameters, body = method
        self.words(" ".join([name, *parameters, "="]), block)
        self.expr(body, block, ends)

    def class_method(self, method, block, ends):
        self.words(f"{method[0]} :: {print_kind(method[1])}", block)

    def declaration(self, declaration, block, ends):
        if declaration[0] == "data":
            self.words(print_declaration(declaration), block)
        elif declaration[0] == "class":
            self.words(f"class {declaration[1]} {declaration[2]} where", block)
            self.block(declaration[3], self.class_method, block, ends)
        elif declaration[0] == "instance":
            head = print_declaration((*declaration[:5], ()))
            self.words(head[:-len(" { }")], block)
            self.block(declaration[5], self.method, block, ends)
        else:
            self.local(declaration, block, ends)
