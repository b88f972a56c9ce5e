"""Rows: words parted by blanks, as logs have them and a desk is told them."""

from twotimes.errors import NoRow

MOST_FIGURES = 13
NOTHING = "-"
# By the kind of a word: which one stands for None.
FOR_NONE = {"end": "-", "knowing": "now"}


# The first word and what the others stand for; forms is a dict from first words to the kinds of the others.
def parts_in(row, forms):
    words = row.split(" ")
    # The other split leaves out empty words, and parts at line feeds too, which no row has.
    if words != row.split() or words[0] not in forms or len(words) != len(forms[words[0]]) + 1:
        raise NoRow("the row is of no form")
    return words[:1] + [part_of(word, kind) for word, kind in zip(words[1:], forms[words[0]])]


def part_of(word, kind):
    if kind == "word":
        return word
    if word == FOR_NONE.get(kind):
        return None
    if not is_number(word):
        raise NoRow("a number has one to thirteen figures, and no noughts ahead")
    return int(word)


def is_number(word):
    if len(word) > MOST_FIGURES or (word[0] == "0" and word != "0"):
        return False
    # isdigit would also take figures beyond 0 to 9.
    return all(["0" <= sign <= "9" for sign in word])


def word_of(part):
    return NOTHING if part is None else str(part)
