"""Rounds and the least table [12]."""

from wantway.books import check_asking
from wantway.makes import Table, made, made_at


def table_of(book):
    """The least table: a dict of all askings to their least worths."""
    return {asking: turns[-1][1] for asking, turns in turns_of(book).items()}


def table_after(book, rounds):
    """The table of this round: a dict of all askings to their worths in it."""
    return {asking: turn_at(book, asking, rounds)[1] for asking in turns_of(book)}


def table_of_nothing(book):
    """The table of round 0: a dict of all askings to None."""
    return {(f, worths): None for f in book.names() for worths in book.rows_of(f)}


def worth_of(book, F, worths):
    """The least worth of an asking."""
    return last_turn(book, F, worths)[1]


def round_of(book, F, worths):
    """The first round in which an asking has its least worth."""
    return last_turn(book, F, worths)[0]


def worth_within(book, known, body):
    """What a body makes by the least table; known has the worths of the names around."""
    return made(body, known, Table(table_of(book)))


def last_turn(book, F, worths):
    """(round, worth) in which an asking turned last; NoAsking where it is none."""
    check_asking(book, F, worths)
    return turns_of(book)[(F, worths)][-1]


def turn_at(book, asking, rounds):
    """(round, worth) in which an asking turned last, up to this round."""
    return [turn for turn in turns_of(book)[asking] if turn[0] <= rounds][-1]


def turns_of(book):
    """Of each asking the list of (round, worth) in which its worth turned, (0, None) first."""
    if len(book.turns) == 0:
        book.turns = found_turns(book)
    return book.turns


def found_turns(book):
    """The turns of all askings, round for round, till nothing turns."""
    table = table_of_nothing(book)
    turns = {asking: [(0, None)] for asking in table}
    users = {asking: {} for asking in table}
    wanted = list(table)
    rounds = 0
    while len(wanted) > 0:
        rounds += 1
        turned = turned_of(book, table, wanted, users)
        for asking, worth in turned.items():
            turns[asking].append((rounds, worth))
        table.update(turned)
        # What an asking makes can turn only where it looked one up that turned.
        wanted = list({user: True for asking in turned for user in users[asking]})
    return turns


def turned_of(book, table, wanted, users):
    """Those of the wanted askings whose bodies make another worth now; users keeps who looked up what."""
    turned = {}
    for asking in wanted:
        worth, looked = made_at(book, asking, table)
        for other in looked:
            users[other][asking] = True
        if worth != table[asking]:
            turned[asking] = worth
    return turned
