"""Words, the rules that are made of them, and what they weigh where they stand."""

NUMBERS_OF_A_WORD = 20
MOST_WORDS = 64
LONGEST_WORD = 16
HEAVIEST_WORD = 127
MOST_TIMES = 255

# Equal to no byte, so no word stands where a byte isn't known.
UNKNOWN = -1


class Word:
    """A word of rules that are as told."""

    def __init__(self, row):
        shown = row[4:4 + row[0]]
        self.folds = row[1] == 1
        self.weight = row[2]
        self.spelling = folded(shown) if self.folds else shown


def folded(row):
    """The row with A to Z as a to z, and all else as it is."""
    return [number + 32 if 65 <= number <= 90 else number for number in row]


def word_rows(rules):
    """The twenty numbers of each word in turn."""
    return [rules[at:at + NUMBERS_OF_A_WORD] for at in range(0, len(rules), NUMBERS_OF_A_WORD)]


def word_is_as_told(row):
    """Whether a word's length, fold, weight and none are what they may be."""
    if len(row) != NUMBERS_OF_A_WORD:
        return False
    if row[0] < 1 or row[0] > LONGEST_WORD:
        return False
    return row[1] <= 1 and row[2] <= HEAVIEST_WORD and row[3] == 0


def rules_are_as_told(rules):
    """Whether there are 1 to 64 words, and each is as told."""
    rows = word_rows(rules)
    if len(rows) < 1 or len(rows) > MOST_WORDS:
        return False
    return all([word_is_as_told(row) for row in rows])


def words_of(rules):
    """The words of rules that are as told."""
    return [Word(row) for row in word_rows(rules)]


def times_spelled(spelling, text):
    """At how many places of the text the spelling stands, those within one another too."""
    size = len(spelling)
    return len([at for at in range(len(text) - size + 1) if text[at:at + size] == spelling])


def times_of_each(words, text):
    """How often each word stands in the text."""
    folded_text = folded(text)
    return [times_spelled(word.spelling, folded_text if word.folds else text) for word in words]


def weight_of(words, times):
    """What the words weigh, each so many times."""
    return sum([word.weight * min(often, MOST_TIMES) for word, often in zip(words, times)])
