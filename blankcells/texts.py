"""The texts of tables and of rules."""

from blankcells.errors import NoText
from blankcells.tables import are_rules, is_many, is_table, need_many, need_rules, need_table

DIGITS = "0123456789"
# No number of a text has more digits, as the highest value is 9999.
MOST_DIGITS = 4
# This stands for a word that is no number; it is no value, no column and no number of columns.
NO_NUMBER = -1


def columns_line(many):
    """The first line of a text."""
    return f"columns {many}\n"


def row_line(cells):
    """The line of a row."""
    return " ".join(["-" if cell is None else str(cell) for cell in cells]) + "\n"


def rule_line(rule):
    """The line of a rule."""
    given, then = rule
    return "".join([f"{column} " for column in given]) + f"> {then}\n"


def table_text(table):
    """The text of a table."""
    need_table(table)
    many, rows = table
    return columns_line(many) + "".join([row_line(cells) for cells in rows])


def rules_text(many, rules):
    """The text of rules of many columns."""
    need_many(many)
    need_rules(many, rules)
    return columns_line(many) + "".join([rule_line(rule) for rule in rules])


def read_number(word):
    """The number that a word is, NO_NUMBER if it is none."""
    if not 1 <= len(word) <= MOST_DIGITS or not all([sign in DIGITS for sign in word]):
        return NO_NUMBER
    number = int(word)
    # A number with leading zeros is written in another way.
    return number if str(number) == word else NO_NUMBER


def read_cell(word):
    """The cell that a word is, NO_NUMBER if it is none."""
    return None if word == "-" else read_number(word)


def read_row(line):
    """The cells of a line."""
    return tuple([read_cell(word) for word in line.split(" ")])


def read_rule(line):
    """The rule of a line, None if its words are not in the places of those of a rule."""
    words = line.split(" ")
    if len(words) < 2 or words[-2] != ">":
        return None
    return (tuple([read_number(word) for word in words[:-2]]), read_number(words[-1]))


def text_lines(text):
    """The lines of a text, without the line feed behind each; NoText for what does not end with one."""
    if not isinstance(text, str) or not text.endswith("\n"):
        raise NoText()
    return text[:-1].split("\n")


def read_many(line):
    """The number of columns that a first line tells; NoText for another line."""
    words = line.split(" ")
    if len(words) != 2 or words[0] != "columns":
        raise NoText()
    many = read_number(words[1])
    if not is_many(many):
        raise NoText()
    return many


def read_table(text):
    """The table that has this text."""
    lines = text_lines(text)
    table = (read_many(lines[0]), tuple([read_row(line) for line in lines[1:]]))
    if not is_table(table):
        raise NoText()
    return table


def read_rules(text):
    """The number of columns and the rules that have this text."""
    lines = text_lines(text)
    many = read_many(lines[0])
    rules = tuple([read_rule(line) for line in lines[1:]])
    if not are_rules(many, rules):
        raise NoText()
    return (many, rules)
