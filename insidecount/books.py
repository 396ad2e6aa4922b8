"""Books: texts of rows and ticks, played to a new house."""

from insidecount.errors import BadRow, BadTime
from insidecount.houses import House
from insidecount.worlds import is_sound

FIGURES = "0123456789"
WORDS_OF_A_TICK = 1
WORDS_OF_A_ROW = 4


def played(badges, late, lost, book):
    """The answers to all texts of a book, and the house as these left it."""
    house = House(badges, late, lost)
    answers = []
    for text in book:
        answers.append(answer_to(house, text))
    return (answers, house)


def answer_to(house, text):
    """Hand a text to the house; tell how the house is then, or what the text is refused with."""
    # A cut at each single blank makes empty words of needless blanks, which are no numbers.
    words = text.split(" ")
    if not is_book_text(words):
        return "BadText"
    try:
        take(house, words)
    except BadRow:
        return "BadRow"
    except BadTime:
        return "BadTime"
    return "sound" if is_sound(house) else "broken"


def is_book_text(words):
    """Whether the words make a tick or a row; the fourth word of a row may be any."""
    if len(words) not in (WORDS_OF_A_TICK, WORDS_OF_A_ROW):
        return False
    return all(is_number(word) for word in words[:3])


def is_number(word):
    """Whether a word is a number of one or two figures without a needless 0."""
    if len(word) not in (1, 2) or not all(sign in FIGURES for sign in word):
        return False
    return len(word) == 1 or word[0] != "0"


def take(house, words):
    """Hand the house the tick or the row that the words make."""
    if len(words) == WORDS_OF_A_TICK:
        house.tick(int(words[0]))
    else:
        house.come(int(words[0]), int(words[1]), int(words[2]), words[3])
