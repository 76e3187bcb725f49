"""[0.8], [0.9], [0.11], [3.1] to [3.3], and touchtowers.word.words."""

from itertools import islice, product

from touchtowers.errors import InvalidCount, InvalidOperation, InvalidPoint, InvalidPrime, InvalidWord, ParseError
from touchtowers.errors import TooMany
from touchtowers.word import words
from touchtowers.word.words import (Branch, count_words, each_word, is_point, is_word, number_of, point_text,
                                    read_point, shared_height, word_at, word_through)
from tests.helpers import (BOW, CUSP, DEEP, FEW_PRIMES, HOOK, LINE, NO_INTEGERS, NO_PRIMES, SIDE, SIXTY, WILD,
                           PlainTest, small_branches, small_words)

EXAMPLES = """
>>> [is_word(3, (0, -1, 1)), is_word(3, (-1,)), is_word(3, (0, -1)), is_word(3, (0, -1, 0)), is_point(3, (0, -1, 0)), is_word(3, (3,)), is_word(3, (True,))]
[True, True, False, False, True, False, False]
>>> [point_text(3, (0, -1, 2)), point_text(11, (10, -1)), point_text(3, ()), read_point(3, "t t 0"), word_through(3, (1, 2, 0, 0)), str(CUSP), Branch.read(3, "0 t 1") == CUSP]
['0 t 2', '10 t', '.', (-1, -1, 0), (1, 2), '0 t 1 over 3', True]
>>> [CUSP.letter_at(1), CUSP.letter_at(7), CUSP.point_at(4), CUSP.goes_through((0, -1, 1, 0)), (0, 0) in CUSP, BOW.is_smooth, CUSP.is_smooth]
[-1, 0, (0, -1, 1, 0), True, False, True, False]
>>> [shared_height(CUSP, HOOK), shared_height(LINE, TALL), shared_height(LINE, SIDE), shared_height(CUSP, CUSP), count_words(3, 1), count_words(3, 2), count_words(2, 3)]
[3, 3, 1, None, 3, 8, 9]
>>> [tuple(each_word(2, 2)), word_at(3, 3, 4), number_of(CUSP)]
[((-1, 1), (0, 1), (1, 1)), (-1, 1, 1), 8]
>>> Branch(3, (0, -1))
raises InvalidWord
"""

LONGEST = (0, -1) * 29 + (2, 1)
TOO_LONG = LONGEST + (1,)
# No points over 3, each for a reason of its own.
NO_POINTS = (None, True, 0, -1, "", ".", "0 t 1", [], [0], {}, {0: 1}, {(): 1}, CUSP, (3,), (-2,), (0, 3, 1), (True,),
             (False,), (0, -1, True), (False, 1), ("0",), ("t",), (None,), ((),), ((0,),), ([0],), ({},), (CUSP,),
             (0,) * 61, (1,) * 61, TOO_LONG, (0,) * 4000, (SIXTY,), (10 ** 60,))
NO_WORDS = NO_POINTS + ((0,), (0, 0), (-1, 0), (-1, -1), (1, 0), (0, -1), (0, -1, 0), (0,) * 60, (1,) * 59 + (-1,))
# Texts of no points over 3, and what is no text.
NO_TEXTS = ("", " ", "..", ". ", " .", "0 .", ". 0", "3", "10", "-1", "+1", "01", "00", "0  1", "0 ", " 0", "0\t1",
            "0\n1", "T", "tt", "t0", "0t", "0,1", "0 t 1 over 3", "1_0", "x", "0 " * 60 + "0", "0" * 4000, "t " * 2000,
            None, True, 0, -1, (), (0, -1), ("0 t 1",), [], ["0"], {}, {"0": 1}, CUSP)


class PointsAndWordsTest(PlainTest):

    def test_examples(self):
        self.examples(EXAMPLES, vars(words))

    def test_constants(self):
        self.same([words.TURN, words.MAX_LETTERS, words.MAX_LISTED], [-1, 60, 3000])

    def test_points(self):
        self.judges(is_point, (3,), ((), (0,), (-1,), (2, -1, 0), (0,) * 60, LONGEST), NO_POINTS)
        for prime in FEW_PRIMES:
            self.judges(is_point, (prime,), [(letter,) for letter in range(-1, prime)], ((prime,), (-2,)))
        self.refuses_primes(is_point, ())
        self.refuses_primes(is_point, None)

    def test_words(self):
        self.judges(is_word, (3,), ((), (-1,), (1,), (2,), (0, 1), (-1, 2), (0,) * 59 + (1,), LONGEST), NO_WORDS)
        for prime in (2, 3, 5):
            listed = small_words(prime, 3)
            for length in range(4):
                for point in product(range(-1, prime), repeat=length):
                    self.assertIs(is_word(prime, point), point in listed)
        self.refuses_primes(is_word, ())
        self.refuses_primes(is_word, (True,))

    def test_texts(self):
        self.same(point_text(31, (30, -1, 0, 9)), "30 t 0 9")
        self.same(read_point(31, "30 t 0 9"), (30, -1, 0, 9))
        for prime in (2, 3, 11):
            for length in range(3):
                for point in product(range(-1, prime), repeat=length):
                    text = " ".join("t" if letter < 0 else str(letter) for letter in point) or "."
                    self.same(point_text(prime, point), text)
                    self.same(read_point(prime, text), point)
        self.same(read_point(3, point_text(3, LONGEST)), LONGEST)
        self.same(read_point(3, " ".join(["0"] * 60)), (0,) * 60)

    def test_texts_refuse(self):
        self.refuses_primes(point_text, ())
        self.refuses_primes(read_point, ".")
        self.refuses_primes(read_point, None)
        self.refused(InvalidPoint, point_text, (3, ()), 1, NO_POINTS)
        for value in NO_TEXTS:
            self.raised(ParseError(0), read_point, 3, value)
            self.raised(ParseError(0), Branch.read, 3, value)
        self.raised(ParseError(0), read_point, 2, "2")
        self.raised(InvalidPrime, point_text, 4, None)
        self.raised(InvalidPrime, read_point, True, None)

    def test_word_through(self):
        for prime in (2, 3, 5):
            for word in small_words(prime, 3):
                for many in (0, 1, 5, 57):
                    self.same(word_through(prime, word + (0,) * many), word)
        self.same(word_through(3, (0,) * 60), ())
        self.same(word_through(3, (-1,) + (0,) * 59), (-1,))
        for point in ((1, -1, 0), (0, -1), (-1, -1), (-1, -1, 0), (2, -1) + (0,) * 58, (1,) * 59 + (-1,)):
            self.raised(InvalidOperation, word_through, 3, point)
        self.refuses_primes(word_through, ())
        self.refused(InvalidPoint, word_through, (3, ()), 1, NO_POINTS)
        self.raised(InvalidPrime, word_through, 6, (0, -1))


class BranchTest(PlainTest):

    def test_made(self):
        for prime in FEW_PRIMES:
            for word in ((), (-1,), (prime - 1,), (0, -1, 1), (0,) * 59 + (1,)):
                branch = Branch(prime, word)
                self.same((branch.prime, branch.word, len(branch), tuple(branch)), (prime, word, len(word), word))
                self.assertEqual(Branch.read(prime, point_text(prime, word)), branch)
                self.same(str(branch), f"{point_text(prime, word)} over {prime}")
        self.same(str(LINE), ". over 3")
        self.same(str(SIDE), "t over 3")

    def test_refuses(self):
        self.refuses_primes(Branch, ())
        self.refuses_primes(Branch, None)
        self.refused(InvalidWord, Branch, (3, ()), 1, NO_WORDS)
        self.refuses_primes(Branch.read, ".")
        self.refuses_primes(Branch.read, 1)
        for text in ("0", "0 t", "0 t 0", "t t", "t 0", " ".join(["0"] * 60)):
            self.raised(InvalidWord, Branch.read, 3, text)
        self.raised(InvalidWord, Branch, 2, (2,))

    def test_never_changes(self):
        for name in ("prime", "word", "is_smooth"):
            with self.assertRaises(AttributeError):
                setattr(CUSP, name, ())

    def test_smooth(self):
        for prime in (2, 3, 5):
            for branch in small_branches(prime, 4 if prime == 2 else 3):
                turns = [height for height, letter in enumerate(branch.word) if letter == -1]
                self.assertIs(branch.is_smooth, turns in ([], [0]))

    def test_letters_and_points(self):
        for branch in (LINE, SIDE, CUSP, DEEP, Branch(3, LONGEST)):
            letters = branch.word + (0,) * 1001
            for height in (*range(61), 999, 1000):
                self.same(branch.letter_at(height), letters[height])
            for height in range(61):
                self.same(branch.point_at(height), letters[:height])
                self.assertIs(branch.goes_through(letters[:height]), True)
                self.assertIs(letters[:height] in branch, True)
        self.refused(InvalidCount, CUSP.letter_at, (0,), 0, NO_INTEGERS + (-1, 1001, SIXTY, -SIXTY))
        self.refused(InvalidCount, CUSP.point_at, (0,), 0, NO_INTEGERS + (-1, 61, SIXTY, -SIXTY))

    def test_goes_through(self):
        points = [point for length in range(4) for point in product(range(-1, 3), repeat=length)]
        for branch in small_branches(3, 3):
            through = [branch.point_at(height) for height in range(4)]
            for point in points:
                self.assertIs(branch.goes_through(point), point in through)
                self.assertIs(point in branch, point in through)
        self.refused(InvalidPoint, CUSP.goes_through, ((),), 0, NO_POINTS)
        for value in NO_POINTS:
            self.assertIs(value in CUSP, False)
            self.assertIs(value in BOW, False)
        self.assertIs((True, True) in BOW, False)
        self.assertIs((False,) in LINE, False)
        self.assertIs((2,) in Branch(2, ()), False)
        self.raised(InvalidPoint, WILD.goes_through, (2,))

    def test_equal(self):
        branches = small_branches(2, 3) + small_branches(3, 2)
        for at, one in enumerate(branches):
            for other_at, other in enumerate(branches):
                self.assertIs(one == other, at == other_at)
                self.assertIs(one != other, at != other_at)
        self.assertIs(CUSP == Branch(3, (0, -1, 1)), True)
        for value in NO_POINTS + ((0, -1, 1), "0 t 1 over 3", (3, (0, -1, 1))):
            if value is not CUSP:
                self.assertIs(CUSP == value, False)
                self.assertIs(CUSP != value, True)
                self.assertIs(value == CUSP, False)


class SequencesTest(PlainTest):

    def test_shared_height(self):
        branches = small_branches(3, 3) + [DEEP, Branch(3, LONGEST), Branch(3, LONGEST[:-1] + (2,))]
        for one in branches:
            for other in branches:
                first, second = one.word + (0,) * 61, other.word + (0,) * 61
                unlike = [height for height in range(61) if first[height] != second[height]]
                self.same(shared_height(one, other), unlike[0] + 1 if unlike else None)
        self.same(shared_height(Branch(3, LONGEST), Branch(3, LONGEST[:-1] + (2,))), 60)

    def test_shared_height_refuses(self):
        wrong = [value for value in NO_POINTS if value is not CUSP] + [(0, -1, 1), "0 t 1"]
        self.refused(InvalidWord, shared_height, (CUSP, CUSP), 0, wrong)
        self.refused(InvalidWord, shared_height, (CUSP, CUSP), 1, wrong)
        self.refused(InvalidWord, shared_height, (WILD, CUSP), 1, wrong)
        self.raised(InvalidOperation, shared_height, CUSP, WILD)
        self.raised(InvalidOperation, shared_height, Branch(2, ()), Branch(31, ()))

    def test_counts_and_sequences(self):
        for prime, most in ((2, 4), (3, 4), (5, 3), (7, 2), (31, 1)):
            listed = small_words(prime, most)
            for length in range(most + 1):
                wanted = sorted(word for word in listed if len(word) == length)
                self.same(list(each_word(prime, length)), wanted)
                self.same(count_words(prime, length), len(wanted))
                self.same([word_at(prime, length, number) for number in range(len(wanted))], wanted)
                self.same([number_of(Branch(prime, word)) for word in wanted], list(range(len(wanted))))
                self.raised(InvalidCount(len(wanted)), word_at, prime, length, len(wanted))

    def test_told_counts(self):
        for prime in FEW_PRIMES:
            self.same([count_words(prime, 0), count_words(prime, 1)], [1, prime])
            for length in range(2, 61):
                self.same(count_words(prime, length), (prime + 1) ** (length - 1) * (prime - 1))

    def test_long_words(self):
        for prime in FEW_PRIMES:
            many = count_words(prime, 60)
            last = (prime - 1,) * 60
            self.same(number_of(Branch(prime, last)), many - 1)
            self.same(number_of(Branch(prime, (-1,) * 59 + (1,))), 0)
            for number in (0, 1, many // 7, many - 2, many - 1, SIXTY):
                if number < min(many, 10 ** 60):
                    word = word_at(prime, 60, number)
                    self.assertEqual(len(word), 60)
                    self.same(number_of(Branch(prime, word)), number)
                else:
                    self.raised(InvalidCount(number), word_at, prime, 60, number)
        # More words than sixty digits can number: longer indices are no integers that are passed.
        self.raised(InvalidCount(10 ** 60), word_at, 31, 60, 10 ** 60)

    def test_refuse(self):
        for call in (count_words, lambda prime, length: next(each_word(prime, length)),
                     lambda prime, length: word_at(prime, length, 0)):
            self.refuses_primes(call, 2)
            self.refuses_primes(call, None)
            self.refused(InvalidCount, call, (3, 2), 1, NO_INTEGERS + (-1, 61, SIXTY, -SIXTY))
        self.refused(InvalidCount, word_at, (3, 2, 0), 2, NO_INTEGERS + (-1, 8, SIXTY, -SIXTY))
        self.refused(InvalidCount, word_at, (3, 0, 0), 2, (1, -1))
        self.raised(InvalidCount(61), word_at, 3, 61, None)
        self.raised(InvalidPrime, word_at, None, None, None)
        self.refused(InvalidWord, number_of, (CUSP,), 0, [value for value in NO_WORDS if value is not CUSP] + [()])

    def test_limit(self):
        # 3000 words: over 2 there are 3 ** 7 = 2187 with 8 letters and 6561 with 9.
        self.assertEqual(len(list(each_word(2, 8))), 2187)
        self.raised(TooMany(3000), lambda: next(each_word(2, 9)))
        # Over 31 there are 30 * 32 = 960 with 2 letters and 30720 with 3.
        self.assertEqual(len(list(each_word(31, 2))), 960)
        self.raised(TooMany(3000), lambda: next(each_word(31, 3)))
        # Over 13 there are 12 * 14 ** 2 = 2352 with 3 letters, over 7 there are 6 * 8 ** 3 = 3072 with 4.
        self.assertEqual(len(list(each_word(13, 3))), 2352)
        self.raised(TooMany(3000), lambda: next(each_word(7, 4)))
        self.raised(TooMany(3000), lambda: next(each_word(31, 60)))

    def test_limit_is_the_last_number(self):
        # No prime and length have just 3000 words, so the limit itself is moved.
        saved = words.MAX_LISTED
        try:
            words.MAX_LISTED = 8
            self.assertEqual(len(list(each_word(3, 2))), 8)
            words.MAX_LISTED = 7
            self.raised(TooMany(7), lambda: next(each_word(3, 2)))
        finally:
            words.MAX_LISTED = saved

    def test_one_by_one(self):
        # A generator raises nothing before its first result is asked for, and makes no more than is asked for.
        late = each_word(None, None)
        self.raised(InvalidPrime, next, late)
        made = []
        first = words.numbered_word
        try:
            words.numbered_word = lambda *told: made.append(told) or first(*told)
            self.same(list(islice(each_word(3, 4), 2)), [(-1, -1, -1, 1), (-1, -1, -1, 2)])
        finally:
            words.numbered_word = first
        self.assertEqual(len(made), 2)
        self.same(list(each_word(3, 3)), list(each_word(3, 3)))
