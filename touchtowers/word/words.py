"""Points, words, and the branches that words tell."""

from touchtowers.base.numbers import check_between, check_equal_primes, check_prime, is_between
from touchtowers.errors import InvalidOperation, InvalidPoint, InvalidWord, ParseError, TooMany

TURN = -1
MAX_LETTERS = 60
MAX_LISTED = 3000

MAX_LETTER_HEIGHT = 1000


def is_point(prime, value):
    """Whether the value is a point over the prime."""
    check_prime(prime)
    if not isinstance(value, tuple) or len(value) > MAX_LETTERS:
        return False
    return all([is_between(letter, TURN, prime - 1) for letter in value])


def check_point(prime, point):
    """Refuse all but primes with their points."""
    if not is_point(prime, point):
        raise InvalidPoint("not a point over the prime")


def ends_as_word(point):
    """Whether a point has no end that a word does not have."""
    return point in ((), (TURN,)) or point[-1] > 0


def is_word(prime, value):
    """Whether the value is the word of a branch over the prime."""
    return is_point(prime, value) and ends_as_word(value)


def text_of_letters(letters):
    """The text of some letters."""
    if len(letters) == 0:
        return "."
    return " ".join(["t" if letter == TURN else str(letter) for letter in letters])


def point_text(prime, point):
    """The text of a point."""
    check_point(prime, point)
    return text_of_letters(point)


def read_point(prime, text):
    """The point with a text."""
    check_prime(prime)
    if not isinstance(text, str):
        raise ParseError(0)
    if text == ".":
        return ()
    letters = {text_of_letters((letter,)): letter for letter in range(TURN, prime)}
    parts = text.split(" ")
    if len(parts) > MAX_LETTERS or not all([part in letters for part in parts]):
        raise ParseError(0)
    return tuple([letters[part] for part in parts])


def without_last_zeros(letters):
    """The letters but for the letters 0 at their end."""
    many = len(letters)
    while many > 0 and letters[many - 1] == 0:
        many = many - 1
    return letters[:many]


def word_through(prime, point):
    """The word of the branch that goes through the point with letters 0 behind it."""
    check_point(prime, point)
    word = without_last_zeros(point)
    if not ends_as_word(word):
        raise InvalidOperation("no branch goes on from this point with letters 0 alone")
    return word


def letters_to(word, height):
    """The first letters along a word, behind which letters 0 go on."""
    return word[:height] + (0,) * (height - len(word))


class Branch:
    """A branch, told by a prime and a word. It never changes."""

    def __init__(self, prime, word):
        if not is_word(prime, word):
            raise InvalidWord("not a word over the prime")
        self._prime = prime
        self._word = word

    @classmethod
    def read(cls, prime, text):
        """The branch whose word has a text."""
        return cls(prime, read_point(prime, text))

    @property
    def prime(self):
        """The prime of the branch."""
        return self._prime

    @property
    def word(self):
        """The word of the branch."""
        return self._word

    @property
    def is_smooth(self):
        """Whether the count at the origin is 1."""
        return TURN not in self._word[1:]

    def letter_at(self, height):
        """The letter that leads from the point of this height to the next one."""
        check_between(height, 0, MAX_LETTER_HEIGHT)
        return self._word[height] if height < len(self._word) else 0

    def point_at(self, height):
        """The point of this height that the branch goes through."""
        check_between(height, 0, MAX_LETTERS)
        return letters_to(self._word, height)

    def goes_through(self, point):
        """Whether the branch goes through a point."""
        check_point(self._prime, point)
        return point == letters_to(self._word, len(point))

    def __len__(self):
        return len(self._word)

    def __contains__(self, x):
        return is_point(self._prime, x) and x == letters_to(self._word, len(x))

    def __iter__(self):
        return iter(self._word)

    def __eq__(self, other):
        return isinstance(other, Branch) and self._prime == other._prime and self._word == other._word

    def __str__(self):
        return f"{text_of_letters(self._word)} over {self._prime}"


def check_branch(branch):
    """Refuse all but branches."""
    if not isinstance(branch, Branch):
        raise InvalidWord("not a branch")


def check_branches(one, other):
    """Refuse all but two branches over one prime."""
    check_branch(one)
    check_branch(other)
    check_equal_primes(one, other)


def shared_height(one, other):
    """How many points both branches go through, None if they are equal."""
    check_branches(one, other)
    for height in range(MAX_LETTERS):
        if one.letter_at(height) != other.letter_at(height):
            return height + 1
    return None


def count_words(prime, length):
    """The number of the words with so many letters."""
    check_prime(prime)
    check_between(length, 0, MAX_LETTERS)
    if length == 0:
        return 1
    if length == 1:
        return prime
    many = prime - 1
    for _ in range(length - 1):
        many = many * (prime + 1)
    return many


def numbered_word(prime, length, number):
    """The word with a valid index among those with so many letters."""
    if length == 0:
        return ()
    if length == 1:
        # The letter 0 is no last letter, so the turn comes in its place.
        return (TURN,) if number == 0 else (number,)
    number, rest = divmod(number, prime - 1)
    letters = [rest + 1]
    for _ in range(length - 1):
        number, rest = divmod(number, prime + 1)
        letters.append(rest - 1)
    return tuple(letters[::-1])


def each_word(prime, length):
    """All words with so many letters, ascending."""
    many = count_words(prime, length)
    if many > MAX_LISTED:
        raise TooMany(MAX_LISTED)
    for number in range(many):
        yield numbered_word(prime, length, number)


def word_at(prime, length, number):
    """The word with an index in the sequence of each_word."""
    many = count_words(prime, length)
    check_between(number, 0, many - 1)
    return numbered_word(prime, length, number)


def number_of(branch):
    """The index of the word of a branch among those of its length."""
    check_branch(branch)
    if len(branch) < 2:
        return max([0, *branch.word])
    number = 0
    for letter in branch.word[:-1]:
        number = number * (branch.prime + 1) + letter + 1
    return number * (branch.prime - 1) + branch.word[-1] - 1
