"""A desk that keeps groves by names, and is told what to do with them in rows of words."""

from treesapart.errors import NoName, NoRow
from treesapart.groves import Grove

FIGURES = "0123456789"
LETTERS = "abcdefghijklmnopqrstuvwxyz"
MOST_FIGURES = 60
MOST_LETTERS = 8


def written(numbers):
    """Some numbers, or places, as a text."""
    return ",".join([str(number) for number in numbers]) or "-"


def said_put(grove, numbers):
    """What put is answered."""
    a, b, strength = numbers
    return str(grove.put(a, b, strength))


def said_take(grove, numbers):
    """What take is answered."""
    grove.take(numbers[0])
    return "ok"


def said_strengthen(grove, numbers):
    """What strengthen is answered."""
    number, strength = numbers
    grove.strengthen(number, strength)
    return "ok"


def said_back(grove, numbers):
    """What back is answered."""
    grove.back()
    return "ok"


def said_again(grove, numbers):
    """What again is answered."""
    grove.again()
    return "ok"


def said_show(grove, numbers):
    """What show is answered."""
    sign = ">" if grove.one_way else "-"
    return " ".join([f"{number}:{a}{sign}{b}*{strength}" for number, a, b, strength in grove.ties()]) or "-"


def said_most(grove, numbers):
    """What most is answered."""
    return str(grove.most(numbers[0]))


def said_trees(grove, numbers):
    """What trees is answered."""
    k, root = numbers
    kind, told = grove.trees(k, root)
    # Places alone are one list; all else are several.
    lists = [told] if kind == "places" else told
    return " ".join([kind] + [written(one) for one in lists])


def said_least(grove, numbers):
    """What least is answered."""
    k, number, root = numbers
    return str(grove.least(k, number, root))


# How many numbers stand behind the name in each row.
WANTED = {"grove": 1, "lanes": 1, "put": 3, "take": 1, "strengthen": 2, "back": 0, "again": 0,
          "show": 0, "most": 1, "trees": 2, "least": 3}
ANSWERS = {"put": said_put, "take": said_take, "strengthen": said_strengthen, "back": said_back,
           "again": said_again, "show": said_show, "most": said_most, "trees": said_trees, "least": said_least}


def is_number(word):
    """Whether a word with signs is a number in figures."""
    if len(word) > MOST_FIGURES or not all(sign in FIGURES for sign in word):
        return False
    return word == "0" or word[0] != "0"


def is_name(word):
    """Whether a word with signs is a name."""
    return len(word) <= MOST_LETTERS and all(sign in LETTERS for sign in word)


def words_of(row):
    """(first word, name, numbers) of a row, the name being any word as yet."""
    if not isinstance(row, str):
        raise NoRow("a row is a text")
    words = row.split(" ")
    if "" in words or words[0] not in WANTED or len(words) != WANTED[words[0]] + 2:
        raise NoRow("these are not the words of a row")
    if not all(is_number(word) for word in words[2:]):
        raise NoRow("there is no number where one is wanted")
    return (words[0], words[1], [int(word) for word in words[2:]])


class Desk:
    """Groves by names."""

    def __init__(self):
        self.groves = {}

    def say(self, row):
        """Do what a row says; the answer."""
        first, name, numbers = words_of(row)
        if not is_name(name):
            raise NoName("a name is of one to eight small letters")
        if first not in ANSWERS:
            self.groves[name] = Grove(numbers[0], first == "lanes")
            return "ok"
        if name not in self.groves:
            raise NoName("no grove is kept by this name")
        answer = ANSWERS[first]
        return answer(self.groves[name], numbers)
