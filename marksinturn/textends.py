"""How a text that has begun right can go on to its end."""

from marksinturn.textreading import MOST_FIGURES, WORDS


def text_end(reader):
    """What a text lacks behind what a reader took; nothing between two lines."""
    if reader.is_between_lines():
        return ""
    if reader.part == "literal":
        return literal_end(reader)
    if reader.part == "word":
        return word_end(reader)
    odds = odds_end(reader)
    start = reader.piece if reader.part == "name" else ""
    return odds + reader.stock.new_name(start)[len(start):] + "\n"


def word_end(reader):
    """The end of a line of which some of the first word is there."""
    word = [one for one in WORDS[reader.lines] if one.startswith(reader.piece)][0]
    end = word[len(reader.piece):]
    if word in ("wish", "guard"):
        return end + "\n"
    odds = " 1 2" if word == "chance" else ""
    return end + odds + " " + reader.stock.new_name("") + "\n"


def odds_end(reader):
    """The end of the odds and the blank behind them, where they are not whole."""
    if reader.part == "p":
        if reader.piece == "":
            return "1 2 "
        return " " + str(int(reader.piece) + 1) + " "
    if reader.part == "q":
        return number_end(reader.piece, reader.p) + " "
    return ""


def number_end(piece, least):
    """The end of a number above another one."""
    if piece == "":
        return str(least + 1)
    if int(piece) > least:
        return ""
    return "9" * (MOST_FIGURES - len(piece))


def literal_end(reader):
    """The end of a line within a literal, or ahead of one that has to come."""
    start = reader.piece[1:] if reader.piece.startswith("!") else reader.piece
    name = [one for one in reader.marks_left() if one.startswith(start)][0]
    return name[len(start):] + "\n"
