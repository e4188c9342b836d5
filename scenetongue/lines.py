"""The table of lines: which words stand behind a first word, and what they tell."""
from scenetongue.words import count_of, is_axis, is_name, number_of

# Of each first word the forms of what stands behind it, a letter for each word:
# n a name, a an axis, q a number, k a count, and M and V for the words mirror and move themselves.
FORMS = {
    "box": ("nqqqqqq",),
    "ball": ("nqqqq",),
    "half": ("nqqqq",),
    "join": ("nnn",),
    "cut": ("nnn",),
    "meet": ("nnn",),
    "slide": ("nnqqq",),
    "turn": ("nnaqq",),
    "show": ("nn", "nnM", "nnVqqq", "nnMVqqq"),
    "lamp": ("nqqq",),
    "look": ("nqqqqqqqqqqqqkk",),
}
THE_WORDS = {"M": "mirror", "V": "move"}
# The faults of words in the order in which they count, each with the letters that it is about.
FAULTS_OF_WORDS = (("name", "n"), ("axis", "a"), ("number", "qk"))


def worth(letter, word):
    """What a word tells where a form has that letter, None where it can't stand there."""
    if letter == "n":
        return word if is_name(word) else None
    if letter == "a":
        return word if is_axis(word) else None
    if letter == "q":
        return number_of(word)
    if letter == "k":
        return count_of(word)
    return word if word == THE_WORDS[letter] else None


def fits(form, words):
    """Whether there are as many words as the form has, and mirror and move where they must be."""
    if len(form) != len(words):
        return False
    return all([worth(letter, word) == word for letter, word in zip(form, words) if letter in THE_WORDS])


def parsed(words):
    """Of a line's words (why, worths): the first fault of its words or None, and what those behind the first tell."""
    rest = words[1:]
    for form in FORMS.get(words[0], ()):
        if fits(form, rest):
            worths = [worth(letter, word) for letter, word in zip(form, rest)]
            return (fault_of_words(form, worths), worths)
    return ("word", [])


def fault_of_words(form, worths):
    """The first fault of words that fit a form, None where there is none."""
    lacking = [letter for letter, told in zip(form, worths) if told is None]
    for why, letters in FAULTS_OF_WORDS:
        if any([letter in letters for letter in lacking]):
            return why
    return None
