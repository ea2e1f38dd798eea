"""Texts of programs."""

from callersrights.errors import InvalidItem, InvalidList, InvalidText
from callersrights.programs import Program, need_program

MOST_OPEN = 8


def text_of(program):
    """The text of a program."""
    need_program(program)
    lines = [["rights"] + program.rights()]
    for name, rights in program.owners():
        lines.append(["owner", name] + rights)
    for name, owner, body in program.functions():
        lines.append(["function", name, owner] + body_tokens(body))
    return "\n".join([" ".join(tokens) for tokens in lines])


def body_tokens(body):
    """The tokens of a body with its braces."""
    tokens = ["{"]
    for step in body:
        tokens.extend(step_tokens(step))
    tokens.append("}")
    return tokens


def step_tokens(step):
    """The tokens of a step."""
    word = step[0]
    if word == "either":
        return [word] + body_tokens(step[1]) + ["or"] + body_tokens(step[2])
    if word == "loop":
        return [word] + body_tokens(step[1])
    if word == "block":
        return ["marked" if step[1] else "block"] + body_tokens(step[2])
    return list(step)


def read_program(text):
    """The program of a text."""
    if not isinstance(text, str):
        raise InvalidText(text)
    lines = [tokens for tokens in [tokens_of(line) for line in text.split("\n")] if tokens]
    words = [tokens[0] for tokens in lines]
    order = ["rights"] + ["owner"] * words.count("owner") + ["function"] * words.count("function")
    if words != order:
        raise InvalidText(text)
    owners = [Reader(text, tokens).read_owner() for tokens in lines if tokens[0] == "owner"]
    functions = [Reader(text, tokens).read_function() for tokens in lines if tokens[0] == "function"]
    rights = lines[0][1:]
    try:
        # What is no name is refused here: the readers take any token for one.
        return Program(rights, owners, functions)
    except (InvalidItem, InvalidList):
        raise InvalidText(text) from None


def tokens_of(line):
    """The tokens of a line, with whatever else it has between blanks and braces."""
    parts = line.replace("{", " { ").replace("}", " } ").split(" ")
    return [part for part in parts if part]


class Reader:
    """What reads the tokens of a line, one after another.

    Where a token does not fit the whole text is refused.
    """

    def __init__(self, text, tokens):
        self.text = text
        self.tokens = tokens
        self.at = 0
        self.depth = 0

    def read_owner(self):
        """The owner of a line."""
        self.skip("owner")
        name = self.token()
        return (name, self.tokens[self.at:])

    def read_function(self):
        """The function of a line."""
        self.skip("function")
        name = self.token()
        owner = self.token()
        body = self.read_body()
        if self.at < len(self.tokens):
            raise InvalidText(self.text)
        return (name, owner, body)

    def token(self):
        """The next token, whatever it is."""
        if self.at == len(self.tokens):
            raise InvalidText(self.text)
        self.at += 1
        return self.tokens[self.at - 1]

    def skip(self, wanted):
        """Pass the next token, which has to be this one."""
        if self.token() != wanted:
            raise InvalidText(self.text)

    def read_body(self):
        """The next tokens as a body in its braces."""
        self.skip("{")
        self.depth += 1
        if self.depth > MOST_OPEN:
            raise InvalidText(self.text)
        steps = []
        word = self.token()
        while word != "}":
            steps.append(self.read_step(word))
            word = self.token()
        self.depth -= 1
        return steps

    def read_step(self, word):
        """The step that begins with a word."""
        if word in ("call", "tail", "check"):
            return (word, self.token())
        if word == "back":
            return (word,)
        if word == "loop":
            return (word, self.read_body())
        if word in ("block", "marked"):
            return ("block", word == "marked", self.read_body())
        if word != "either":
            raise InvalidText(self.text)
        first = self.read_body()
        self.skip("or")
        return (word, first, self.read_body())
