"""The words of commands, and what is done by them."""

from lanecross.engine import is_pace, is_time

WORDS = ("run", "hop", "on")


def number_from(reader, word):
    """Takes the number behind the word of a command; that of a link may be any from 0 on."""
    if word == "hop":
        return reader.integer_from(0)
    number = reader.number()
    fits = is_pace(number) if word == "run" else is_time(number)
    if not fits:
        reader.refuse_last()
    return number


def tell(engine, command):
    """An engine is told a command."""
    word, number = command
    if word == "run":
        engine.run(number)
    elif word == "hop":
        engine.hop(number)
    else:
        engine.on(number)
