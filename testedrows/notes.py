"""Programs and tested programs as texts, and read from them."""

from testedrows.errors import BadText
from testedrows.programs import DEEDS, PARTS, check_program
from testedrows.rows import PLACES, check_tested

FIGURES = "0123456789"
MOST_OF_NUMBER = 5
MOST_OF_TEST = 4
MOST_OF_PIECE = 4
MOST_OF_NAME = 2


class Reading:
    """The words of a text, and the place of the one that is to be read next."""

    def __init__(self, words):
        self.words = words
        self.place = 0


def written(program):
    """Tell a program's text."""
    check_program(program)
    ins, names, body = program
    return " ".join(["program", str(ins), str(names)] + words_of_body(body) + ["end"])


def words_of_body(body):
    words = []
    for deed in body:
        words += words_of_deed(deed)
    return words


def words_of_deed(deed):
    word = deed[0]
    if word == "set":
        return ["set", f"n{deed[1]}"] + words_of_part(deed[2])
    if word == "if":
        sides = words_of_body(deed[2]) + ["else"] + words_of_body(deed[3])
        return ["if"] + words_of_part(deed[1]) + sides + ["end"]
    if word == "while":
        return ["while"] + words_of_part(deed[1]) + words_of_body(deed[2]) + ["end"]
    return [word] + words_of_parts(deed[1:])


def words_of_parts(parts):
    words = []
    for part in parts:
        words += words_of_part(part)
    return words


def words_of_part(part):
    word = part[0]
    if word == "num":
        return [str(part[1])]
    if word == "name":
        return [f"n{part[1]}"]
    return [word] + words_of_parts(part[1:])


def read(text):
    """Tell the program whose text it is."""
    reading = Reading(text.split(" "))
    pass_word("program", reading)
    ins = read_number(MOST_OF_NAME, reading)
    names = read_number(MOST_OF_NAME, reading)
    body = read_body("end", reading)
    if reading.place < len(reading.words):
        raise BadText(reading.place)
    program = (ins, names, body)
    check_program(program)
    return program


def word_here(reading):
    """The word that is to be read next; None, which can stand nowhere, behind the last one."""
    if reading.place == len(reading.words):
        return None
    return reading.words[reading.place]


def pass_word(word, reading):
    if word_here(reading) != word:
        raise BadText(reading.place)
    reading.place += 1


def read_number(most, reading):
    number = number_of(word_here(reading), most)
    if number is None:
        raise BadText(reading.place)
    reading.place += 1
    return number


def number_of(word, most):
    """The number that a word tells by so many figures at the most; None for another word."""
    if word is None or not 1 <= len(word) <= most:
        return None
    if any([sign not in FIGURES for sign in word]):
        return None
    if word[0] == "0" and word != "0":
        return None
    return int(word)


def read_name(reading):
    name = name_of(word_here(reading))
    if name is None:
        raise BadText(reading.place)
    reading.place += 1
    return name


def name_of(word):
    """The number of the name that a word tells; None for another word."""
    if word is None or not word.startswith("n"):
        return None
    return number_of(word[1:], MOST_OF_NAME)


def read_body(closing, reading):
    """The deeds up to the word that closes them, which is passed, too."""
    deeds = []
    while word_here(reading) != closing:
        deeds.append(read_deed(reading))
    reading.place += 1
    return tuple(deeds)


def read_deed(reading):
    word = word_here(reading)
    if word not in DEEDS:
        raise BadText(reading.place)
    reading.place += 1
    if word == "set":
        name = read_name(reading)
        return (word, name, read_part(reading))
    if word == "if":
        part = read_part(reading)
        body = read_body("else", reading)
        return (word, part, body, read_body("end", reading))
    if word == "while":
        part = read_part(reading)
        return (word, part, read_body("end", reading))
    return (word,) + read_parts(DEEDS[word], reading)


def read_parts(places, reading):
    """A part for each of the places."""
    return tuple([read_part(reading) for place in places])


def read_part(reading):
    word = word_here(reading)
    name = name_of(word)
    if name is not None:
        reading.place += 1
        return ("name", name)
    if word in PARTS and word not in ("num", "name"):
        reading.place += 1
        return (word,) + read_parts(PARTS[word], reading)
    return ("num", read_number(MOST_OF_NUMBER, reading))


def written_rows(tested):
    """Tell a tested program's text."""
    check_tested(tested)
    ins, names, pieces = tested
    lines = [f"tested {ins} {names}"]
    for rows, goes in pieces:
        lines.append("piece")
        lines += [" ".join([str(told) for told in row]) for row in rows]
        lines += [line_of_go(test, piece) for test, piece in goes]
    return "\n".join(lines)


def line_of_go(test, piece):
    if piece == -1:
        return f"go {test} end"
    return f"go {test} {piece}"


def read_rows(text):
    """Tell the tested program whose text it is."""
    lines = [line.split(" ") for line in text.split("\n")]
    head = head_of(lines[0])
    if head is None:
        raise BadText(0)
    pieces = []
    for place, words in enumerate(lines):
        if place > 0:
            add_line(words, place, pieces)
    tested = (head[0], head[1], tuple([(tuple(rows), tuple(goes)) for rows, goes in pieces]))
    check_tested(tested)
    return tested


def head_of(words):
    """(ins, names) of the first line's words; None if they can't be such."""
    if words[0] != "tested":
        return None
    return numbers_of(words[1:], [MOST_OF_NAME, MOST_OF_NAME])


def numbers_of(words, most):
    """The numbers that words tell, each by so many figures at the most; None if one doesn't, or for another count."""
    if len(words) != len(most):
        return None
    numbers = [number_of(word, figures) for word, figures in zip(words, most)]
    return None if None in numbers else tuple(numbers)


def add_line(words, place, pieces):
    """Add what a line's words tell to the pieces, each (rows, goes)."""
    if words == ["piece"]:
        pieces.append(([], []))
    elif pieces and words[0] == "go":
        add_told(go_of(words), place, pieces[-1][1])
    elif pieces and not pieces[-1][1]:
        add_told(row_of(words), place, pieces[-1][0])
    else:
        # Ahead of the first piece, or a row behind a piece's goes.
        raise BadText(place)


def add_told(told, place, held):
    if told is None:
        raise BadText(place)
    held.append(told)


def go_of(words):
    """A go of a line's words; None if they can't be one."""
    if len(words) == 3 and words[2] == "end":
        test = number_of(words[1], MOST_OF_TEST)
        return None if test is None else (test, -1)
    return numbers_of(words[1:], [MOST_OF_TEST, MOST_OF_PIECE])


def row_of(words):
    """A row of a line's words; None if they can't be one."""
    if len(words) < 2 or words[1] not in PLACES:
        return None
    most = [MOST_OF_TEST if place == "made" else MOST_OF_NUMBER for place in PLACES[words[1]]]
    numbers = numbers_of([words[0]] + words[2:], [MOST_OF_TEST] + most)
    return None if numbers is None else (numbers[0], words[1]) + numbers[1:]
