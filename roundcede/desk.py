"""The desk: rows of text, answered by a book of its own."""

from roundcede.book import Book
from roundcede.errors import BadName, CedeError, DaysTurned, Full, KnownHouse, NothingDone, OutOfRange, ShutIn
from roundcede.errors import ToItself, TooMuch, UnknownHouse
from roundcede.wording import listed, parse, shown


def day_and_names(day, names):
    return " ".join([str(day)] + names)


def refusal_word(refusal):
    if isinstance(refusal, BadName):
        return "bad name"
    if isinstance(refusal, KnownHouse):
        return "known house"
    if isinstance(refusal, UnknownHouse):
        return "unknown house"
    if isinstance(refusal, ToItself):
        return "to itself"
    if isinstance(refusal, DaysTurned):
        return "days turned"
    if isinstance(refusal, OutOfRange):
        return "out of range"
    if isinstance(refusal, TooMuch):
        return "too much"
    if isinstance(refusal, ShutIn):
        return "shut in " + day_and_names(refusal.day, refusal.names)
    if isinstance(refusal, Full):
        return "full"
    if isinstance(refusal, NothingDone):
        return "nothing done"
    return "unclear"


def do_deed(book, asked):
    if asked[0] == "house":
        book.house(asked[1])
    elif asked[0] == "pact":
        book.pact(asked[1], asked[2], asked[3], asked[4], asked[5])
    else:
        book.loss(asked[1], asked[2], asked[3])
    standing = len(book.deeds())
    return f"done {standing}"


def tell_deeds(book):
    rows = book.deeds()
    return "; ".join(rows) if rows else "none"


def tell_fractions(book, asked):
    if asked[0] == "paper":
        told = book.paper(asked[1], asked[2])
    elif asked[0] == "shares":
        told = book.shares(asked[1], asked[2])
    else:
        told = book.change(asked[1], asked[2], asked[3], asked[4], asked[5], asked[6], asked[7])
    return listed(book.houses(), [shown(one) for one in told])


def tell_coins(book, asked):
    told = book.coins(asked[1], asked[2], asked[3])
    return listed(book.houses(), [str(number) for number in told])


def tell_rounds(book, asked):
    told = book.rounds(asked[1], asked[2], asked[3], asked[4])
    after = told[-1]
    return listed(book.houses(), [f"{way} {held}" for way, held in zip(after[0], after[1])])


def tell_shut(book, asked):
    whom = book.shut(asked[1], asked[2], asked[3], asked[4], asked[5])
    return "none" if whom is None else day_and_names(whom[0], whom[1])


def ask(book, asked):
    word = asked[0]
    if word in ("house", "pact", "loss"):
        return do_deed(book, asked)
    if word == "back":
        return "back " + book.take_back()
    if word == "deeds":
        return tell_deeds(book)
    if word == "coins":
        return tell_coins(book, asked)
    if word == "rounds":
        return tell_rounds(book, asked)
    if word == "borne":
        return str(book.borne(asked[1], asked[2]))
    if word == "shut":
        return tell_shut(book, asked)
    return tell_fractions(book, asked)


class Desk:
    def __init__(self):
        self.book = Book()

    def answer(self, row):
        try:
            return ask(self.book, parse(row))
        except CedeError as refusal:
            return "refused: " + refusal_word(refusal)


def answers(rows):
    desk = Desk()
    return [desk.answer(row) for row in rows]
