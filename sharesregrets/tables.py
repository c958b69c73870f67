"""Tables: how they are read from a text, and their one form."""

from sharesregrets.tokens import END, NAME, NUMBER, TableFault, tokens_of

MOST_BYTES = 4096
MOST_COLUMNS = 4
MOST_ROWS = 16
MOST_QUESTIONS = 8
MOST_VALUE = 9
MOST_SUMMED = 1000
MOST_TIMES = 99

TOO_LONG = 1
NOT_ALLOWED = 3
TOO_MANY = 4
COLUMN_AGAIN = 5
ASKED_AGAIN = 6
OUT_OF_RANGE = 7
NO_COLUMN = 8


class Table:
    """Column names; rows (numbers, what is summed); questions (grouping, how often it comes)."""

    def __init__(self, columns):
        self.columns = columns
        self.rows = []
        self.questions = []


class TokenWalk:
    """Tokens, taken one behind another."""

    def __init__(self, tokens):
        self.tokens = tokens
        self.taken = 0

    def take(self, kinds):
        """The next token, which has to be of one of these kinds."""
        token = self.tokens[self.taken]
        if token.kind not in kinds:
            raise TableFault(NOT_ALLOWED, token.place)
        self.taken += 1
        return token

    def take_number(self, least, most):
        return number_within(self.take((NUMBER,)), least, most)


def number_within(token, least, most):
    if token.content < least or token.content > most:
        raise TableFault(OUT_OF_RANGE, token.place)
    return token.content


def read_table(text):
    """The table that a list of bytes tells; TableFault if it is not right."""
    if len(text) > MOST_BYTES:
        raise TableFault(TOO_LONG, MOST_BYTES)
    walk = TokenWalk(tokens_of(text))
    table = Table(read_columns(walk))
    token = walk.take(("row", "ask", END))
    while token.kind != END:
        if token.kind == "row":
            refuse_beyond(table.rows, MOST_ROWS, token)
            table.rows.append(read_row(walk, len(table.columns)))
        else:
            refuse_beyond(table.questions, MOST_QUESTIONS, token)
            table.questions.append(read_question(walk, table.columns))
        token = walk.take(("row", "ask", END))
    return table


def refuse_beyond(told, most, token):
    if len(told) == most:
        raise TableFault(TOO_MANY, token.place)


def read_columns(walk):
    walk.take(("columns",))
    columns = []
    sign = ","
    while sign == ",":
        token = walk.take((NAME,))
        refuse_beyond(columns, MOST_COLUMNS, token)
        if token.content in columns:
            raise TableFault(COLUMN_AGAIN, token.place)
        columns.append(token.content)
        sign = walk.take((",", ";")).kind
    return columns


def read_row(walk, column_count):
    numbers = [walk.take_number(0, MOST_VALUE)]
    while len(numbers) < column_count:
        walk.take((",",))
        numbers.append(walk.take_number(0, MOST_VALUE))
    walk.take((":",))
    summed = read_summed(walk)
    walk.take((";",))
    return (tuple(numbers), summed)


def read_summed(walk):
    token = walk.take(("-", NUMBER))
    if token.kind == "-":
        return -walk.take_number(0, MOST_SUMMED)
    return number_within(token, 0, MOST_SUMMED)


def read_question(walk, columns):
    grouping = 0
    times = 1
    token = walk.take((NAME, "times", ";"))
    while token.kind == NAME:
        grouping |= asked_bit(token, columns, grouping)
        token = walk.take((",", "times", ";"))
        if token.kind == ",":
            token = walk.take((NAME,))
    if token.kind == "times":
        times = walk.take_number(1, MOST_TIMES)
        walk.take((";",))
    return (grouping, times)


def asked_bit(token, columns, grouping):
    """The bit of a question's next column, if it may stand behind those of the grouping."""
    if token.content not in columns:
        raise TableFault(NO_COLUMN, token.place)
    bit = 1 << columns.index(token.content)
    if grouping & bit:
        raise TableFault(ASKED_AGAIN, token.place)
    return bit


def one_form(table):
    """The table's one form, as a list of bytes."""
    lines = ["columns " + ", ".join(table.columns) + " ;\n"]
    for numbers, summed in table.rows:
        told = ", ".join([str(number) for number in numbers])
        lines.append(f"row {told} : {summed} ;\n")
    for grouping, times in table.questions:
        lines.append(question_line(table.columns, grouping, times))
    return [ord(sign) for sign in "".join(lines)]


def question_line(columns, grouping, times):
    line = "ask "
    if grouping > 0:
        line += ", ".join([name for place, name in enumerate(columns) if grouping >> place & 1]) + " "
    if times > 1:
        line += f"times {times} "
    return line + ";\n"
