"""The tokens of a text, and the fault that a text is refused with."""

MOST_NAME_BYTES = 16
MOST_NUMBER_DIGITS = 10
MOST_NUMBER = 1000000000

NO_TOKEN = 2

NAME = "name"
NUMBER = "number"
END = "end"

WORDS = ("columns", "row", "ask", "times")
SIGNS = ",:;-"
GAPS = " \t\n#"
DIGITS = "0123456789"
LETTERS = "ABCDEFGHIJKLMNOPQRSTUVWXYZabcdefghijklmnopqrstuvwxyz"
MEANINGLESS = "?"


class TableFault(Exception):
    """A text is no right table: the fault's code, and its place."""

    def __init__(self, code, place):
        Exception.__init__(self)
        self.code = code
        self.place = place


class Token:
    """A word or a sign has itself as its kind; a name, a number and the end have theirs."""

    def __init__(self, kind, content, place):
        self.kind = kind
        self.content = content
        self.place = place


def text_of_bytes(text):
    """One sign for each byte, so that places stay as they are."""
    signs = {}
    for sign in GAPS + SIGNS + DIGITS + LETTERS:
        signs[ord(sign)] = sign
    return "".join([signs.get(byte, MEANINGLESS) for byte in text])


def skip_gap(text, place):
    """The first place from this one on that is in no blank and in no remark."""
    while place < len(text) and text[place] in GAPS:
        if text[place] == "#":
            place = remark_end(text, place)
        else:
            place += 1
    return place


def remark_end(text, place):
    end = text.find("\n", place)
    return len(text) if end < 0 else end


def token_end(text, place):
    """The place behind the token that begins here."""
    end = place + 1
    if text[place] in SIGNS:
        return end
    if text[place].isdigit():
        while end < len(text) and text[end].isdigit():
            end += 1
        return end
    if text[place].isalpha():
        while end < len(text) and text[end].isalnum():
            end += 1
        return end
    raise TableFault(NO_TOKEN, place)


def number_token(digits, place):
    if len(digits) > MOST_NUMBER_DIGITS or (digits[0] == "0" and len(digits) > 1):
        raise TableFault(NO_TOKEN, place)
    number = int(digits)
    if number > MOST_NUMBER:
        raise TableFault(NO_TOKEN, place)
    return Token(NUMBER, number, place)


def token_of(piece, place):
    if piece[0].isdigit():
        return number_token(piece, place)
    if piece in WORDS or piece in SIGNS:
        return Token(piece, piece, place)
    if len(piece) > MOST_NAME_BYTES:
        raise TableFault(NO_TOKEN, place)
    return Token(NAME, piece, place)


def tokens_of(text):
    """All tokens of a list of bytes, in order; the last one is the end."""
    signs = text_of_bytes(text)
    tokens = []
    place = skip_gap(signs, 0)
    while place < len(signs):
        end = token_end(signs, place)
        tokens.append(token_of(signs[place:end], place))
        place = skip_gap(signs, end)
    tokens.append(Token(END, "", len(signs)))
    return tokens
