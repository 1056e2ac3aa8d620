"""Points 49 and 50, and the interface's heading topiary/box.py."""

import copy
import itertools
import random
import string
import unittest
from unittest import mock

from topiary.box import bits_told, pack, stream_of, unpack
from topiary.codes import code_of, lengths_of
from topiary.errors import InvalidBox
from topiary.judge import judge_rows
from topiary.rows import Rows, rows_of, same_rows, tree_of
from trees import EXAMPLE, bushy, chain, small_trees, some_documents, wide

SIGNS = "\n" + "".join(map(chr, range(32, 127)))


def steps(number):
    digits = format(number + 1, "b")
    return "0" * (len(digits) - 1) + digits


def coded(lengths, symbols):
    """The lengths in steps, and the symbols in the code that the lengths tell."""
    written = "".join(steps(length) for length in lengths)
    last, code = None, {}
    for length, symbol in sorted((length, symbol) for symbol, length in enumerate(lengths) if length):
        last = "0" * length if last is None else format(int(last, 2) + 1, "b").zfill(len(last)).ljust(length, "0")
        code[symbol] = last
    return written, [code[symbol] for symbol in symbols]


class Written:
    """The row of bits of rows by the words of point 49, any part of which may be put otherwise."""

    def __init__(self, rows, **others):
        self.names = rows.names
        self.lasts = rows.lasts
        self.fulls = rows.fulls
        self.texts = rows.texts
        self.many_names = len(rows.names)
        self.many_rows = len(rows.labels)
        self.labels = rows.labels
        self.label_lengths = lengths_of([rows.labels.count(label) for label in range(len(rows.names) + 1)])
        self.sign_lengths = lengths_of(["".join(rows.texts).count(sign) for sign in SIGNS])
        for part, value in others.items():
            assert part in vars(self)
            setattr(self, part, value)

    def parts(self):
        names = [steps(len(name)) + "".join(format(ord(letter) - 97, "05b") for letter in name) for name in self.names]
        yield steps(self.many_names) + "".join(names)
        yield steps(self.many_rows)
        lengths, labels = coded(self.label_lengths, self.labels)
        yield lengths + "".join(labels)
        yield "".join(map(str, self.lasts + self.fulls))
        lengths, signs = coded(self.sign_lengths, [SIGNS.index(sign) for text in self.texts for sign in text])
        yield lengths
        for text in self.texts:
            yield steps(len(text)) + "".join(signs[:len(text)])
            signs = signs[len(text):]

    def bits(self):
        return "".join(self.parts())

    def box(self, behind=""):
        bits = self.bits() + behind
        bits += "0" * (-len(bits) % 8)
        return [int(bits[at:at + 8], 2) for at in range(0, len(bits), 8)]


def texts_of(many, signs, dice):
    """A document with so many texts of so many signs."""
    children = []
    for _ in range(many):
        children += ["".join(dice.choice(SIGNS) for _ in range(signs)), ("e", [])]
    return ("t", children)


def tree_of_bits(many):
    """A document that is written as so many bits, about 320000."""
    # A text of 127 to 200 equal signs has a bit for each of them, and as many for its length.
    lengths = [127] * 4 + [200] * 1400
    left = many - bits_told(rows_of(tree_of_lengths(lengths)))
    while left > 4 * 73:
        lengths += [200] * max(1, left // 250)
        left = many - bits_told(rows_of(tree_of_lengths(lengths)))
    for at in range(4):
        lengths[at] += min(73, max(0, left - 73 * at))
    return tree_of_lengths(lengths)


def tree_of_lengths(lengths):
    return ("t", [child for length in lengths for child in ("x" * length, ("e", []))])


def many_names(many):
    return ["".join(letters) for letters in itertools.islice(itertools.product(string.ascii_lowercase, repeat=3), many)]


def documents():
    dice = random.Random(49)
    return [
        *some_documents(), ("z", []), ("zzzzzzzzzzzz", []), ("a", ["x"]), ("a", ["\n"]), ("a", ["~" * 200]),
        ("a", [SIGNS]),
        ("b", [("a", ["x" * 40]), "x"]), ("q", [("q", [("q", [])])]), texts_of(10, 150, dice), texts_of(3, 1, dice),
    ]


class BoxTest(unittest.TestCase):
    def check_refused(self, numbers):
        before = list(numbers)
        with self.assertRaises(InvalidBox):
            unpack(numbers)
        self.assertEqual(numbers, before)

    def check(self, tree):
        rows = rows_of(tree)
        before = copy.deepcopy(vars(rows))
        stream = stream_of(rows)
        self.assertEqual("".join(map(str, stream)), Written(rows).bits())
        self.assertEqual(bits_told(rows), len(stream))
        numbers = pack(rows)
        self.assertEqual(numbers, Written(rows).box())
        self.assertEqual(vars(rows), before)
        passed = list(numbers)
        found = unpack(passed)
        self.assertEqual(passed, numbers)
        self.assertTrue(same_rows(found, rows))
        self.assertEqual(tree_of(found), tree)
        return numbers


class PackedTest(BoxTest):
    def test_part_by_part(self):
        rows = rows_of(("ab", ["x", ("b", []), "yx"]))
        # 1. two names; the first one has two letters, the second one has one.
        bits = "011" + "011" + "00000" + "00001" + "010" + "00001"
        # 2. four rows; 3. the counts 2, 1, 1 for texts, `ab` and `b`; labels 1, 0, 2, 0 in rows.
        bits += "00101" + "010" + "011" + "011" + "10" + "0" + "11" + "0"
        # 4. lasts and fulls.
        bits += "1001" + "1000"
        # 5. the counts 2 and 1 for `x` and `y`, all other signs have none; two texts.
        bits += "1" * 89 + "010" * 2 + "1" * 5 + "010" + "0" + "011" + "1" + "0"
        self.assertEqual("".join(map(str, stream_of(rows))), bits)
        self.assertEqual(bits_told(rows), len(bits))

    def test_the_smallest_document(self):
        rows = rows_of(("a", []))
        bits = "010" + "010" + "00000" + "010" + "1" + "010" + "0" + "1" + "0" + "1" * 96
        self.assertEqual("".join(map(str, stream_of(rows))), bits)
        self.check(("a", []))

    def test_documents(self):
        for tree in documents():
            self.check(tree)

    def test_small_documents(self):
        for many in range(1, 5):
            for tree in small_trees(many, ["a", "b"], "x"):
                self.check(tree)

    def test_large_documents(self):
        for tree in (bushy(5000), wide(5000), ("r", [(name, []) for name in many_names(4999)])):
            self.check(tree)

    def test_zeros_behind(self):
        lengths = set()
        for many in range(1, 20):
            rows = rows_of(("a", ["x" * many]))
            numbers = pack(rows)
            self.assertEqual(len(numbers), (bits_told(rows) + 7) // 8)
            lengths.add(bits_told(rows) % 8)
        self.assertEqual(lengths, set(range(8)))

    def test_bits_are_told_without_making_them(self):
        rows = rows_of(EXAMPLE)
        told = len(stream_of(rows))
        with mock.patch("topiary.box.stream_of", side_effect=AssertionError), \
                mock.patch("topiary.box.steps_of", side_effect=AssertionError), \
                mock.patch("topiary.box.code_of", side_effect=AssertionError):
            self.assertEqual(bits_told(rows), told)

    def test_as_many_numbers_as_are_loaded(self):
        for many, is_loaded in ((8 * 39999 + 1, True), (8 * 40000, True), (8 * 40000 + 1, False), (8 * 41000, False)):
            tree = tree_of_bits(many)
            rows = rows_of(tree)
            self.assertEqual(bits_told(rows), many)
            numbers = pack(rows)
            self.assertEqual(numbers, Written(rows).box())
            self.assertEqual(len(numbers), (many + 7) // 8)
            if is_loaded:
                self.assertEqual(tree_of(unpack(numbers)), tree)
            else:
                self.check_refused(numbers)

    def test_what_is_returned_is_new(self):
        rows = rows_of(EXAMPLE)
        stream_of(rows).clear()
        pack(rows).clear()
        numbers = pack(rows)
        unpack(numbers).labels.clear()
        self.assertTrue(same_rows(unpack(numbers), rows))


class RefusedTest(BoxTest):
    def test_no_box_at_all(self):
        for numbers in ([], [0], [255], [0] * 100, [255] * 100, [0] * 40000, [255] * 40000, [128] * 40000, [1] * 40000):
            self.check_refused(numbers)

    def test_too_many_numbers(self):
        self.check_refused([0] * 40001)
        self.check_refused(pack(rows_of(EXAMPLE)) + [0] * 40000)

    def test_numbers_below_0_and_above_255(self):
        numbers = pack(rows_of(EXAMPLE))
        for at in range(len(numbers)):
            for number in (-1, 256, numbers[at] - 256, numbers[at] + 256, 10 ** 30, -10 ** 30):
                self.check_refused(numbers[:at] + [number] + numbers[at + 1:])

    def check_changed(self, numbers, original):
        """A changed list is refused, or it is the box of another document."""
        passed = list(numbers)
        try:
            rows = unpack(passed)
        except InvalidBox:
            rows = None
        self.assertEqual(passed, numbers)
        if rows is not None:
            self.assertIsNone(judge_rows(rows))
            self.assertEqual(pack(rows), numbers)
            self.assertEqual(Written(rows).box(), numbers)
            self.assertNotEqual(numbers, original)
        return rows is not None

    def test_each_bit_changed(self):
        loaded = 0
        for tree in (EXAMPLE, ("a", []), ("a", ["x"]), ("b", [("a", ["ab", ("c", [])]), "cd"])):
            numbers = pack(rows_of(tree))
            for at in range(len(numbers)):
                for bit in range(8):
                    changed = numbers[:at] + [numbers[at] ^ 1 << bit] + numbers[at + 1:]
                    loaded += self.check_changed(changed, numbers)
        self.assertGreater(loaded, 10)

    def test_each_number_left_out_put_in_or_changed(self):
        dice = random.Random(51)
        for tree in (EXAMPLE, ("b", [("a", ["ab", ("c", [])]), "cd"]), bushy(40)):
            numbers = pack(rows_of(tree))
            for at in range(len(numbers)):
                self.check_changed(numbers[:at] + numbers[at + 1:], numbers)
                for number in (0, 255, dice.randrange(256), dice.randrange(256)):
                    self.check_changed(numbers[:at] + [number] + numbers[at:], numbers)
                    if number != numbers[at]:
                        self.check_changed(numbers[:at] + [number] + numbers[at + 1:], numbers)

    def test_the_end_cut_off(self):
        for tree in documents():
            numbers = pack(rows_of(tree))
            for end in [*range(min(len(numbers), 40)), len(numbers) - 1, len(numbers) // 2]:
                self.check_refused(numbers[:end])

    def test_zeros_more_or_fewer_behind(self):
        for tree in documents():
            numbers = pack(rows_of(tree))
            for many in (1, 2, 8, 100):
                self.check_refused(numbers + [0] * many)
            for number in (1, 128, 255):
                self.check_refused(numbers + [number])

    def test_a_bit_set_among_the_zeros_behind(self):
        many = 0
        for tree in documents():
            rows = rows_of(tree)
            numbers = pack(rows)
            for bit in range(-bits_told(rows) % 8):
                self.check_refused(numbers[:-1] + [numbers[-1] | 1 << bit])
                many += 1
        self.assertGreater(many, 20)

    def test_lengths_of_codes(self):
        rows = rows_of(("a", [("b", ["x", ("a", []), "y"]), "xx"]))
        right = Written(rows)
        self.assertEqual(right.box(), pack(rows))
        self.assertEqual(right.label_lengths, [1, 2, 2])
        # Full, but those of other counts.
        for lengths in ([2, 1, 2], [2, 2, 1]):
            self.check_refused(Written(rows, label_lengths=lengths).box())
        # Not full, though the code that they tell can be read.
        for lengths in ([2, 2, 2], [1, 2, 3], [1, 3, 3], [3, 3, 3]):
            self.check_refused(Written(rows, label_lengths=lengths).box())
        at = SIGNS.index("x")
        self.assertEqual(right.sign_lengths[at:at + 2], [1, 1])
        for lengths in ([1, 2], [2, 2], [2, 1]):
            others = list(right.sign_lengths)
            others[at:at + 2] = lengths
            self.check_refused(Written(rows, sign_lengths=others).box())
        # A sign more than there are has a code of its own.
        others = list(right.sign_lengths)
        others[at:at + 3] = [1, 2, 2]
        self.check_refused(Written(rows, sign_lengths=others).box())

    def test_codes_without_symbols(self):
        rows = rows_of(("a", ["x"]))
        box = Written(rows).bits()
        self.assertIn("0" * 2, box)
        no_signs = Written(rows, sign_lengths=[0] * 96, texts=[])
        for behind in ("", steps(1), steps(1) + "0", steps(0), steps(5000)):
            self.check_refused(no_signs.box(behind))
        no_labels = Written(rows, label_lengths=[0, 0], labels=[])
        self.check_refused(no_labels.box())
        # One symbol alone has the row of bits 0, and 1 tells none.
        rows = rows_of(("a", []))
        bits = Written(rows).bits()
        at = len(steps(1) * 2) + 5 + len(steps(1)) + len(steps(0) + steps(1))
        self.assertEqual(bits[at], "0")
        changed = bits[:at] + "1" + bits[at + 1:]
        changed += "0" * (-len(changed) % 8)
        self.check_refused([int(changed[k:k + 8], 2) for k in range(0, len(changed), 8)])

    def test_rows_of_no_document(self):
        rows = rows_of(("a", [("b", ["x", ("a", []), "y"]), "xx"]))
        for other in (
            Rows(["b", "a"], rows.labels, rows.lasts, rows.fulls, rows.texts),
            Rows(["a", "a"], rows.labels, rows.lasts, rows.fulls, rows.texts),
            Rows(["a", ""], rows.labels, rows.lasts, rows.fulls, rows.texts),
            Rows(["a", "b" * 13], rows.labels, rows.lasts, rows.fulls, rows.texts),
            Rows(["a", "b", "c"], rows.labels, rows.lasts, rows.fulls, rows.texts),
            Rows(rows.names, rows.labels, rows.lasts, rows.fulls, ["", "x", "y"]),
            Rows(rows.names, rows.labels, rows.lasts, rows.fulls, ["x" * 201, "x", "y"]),
            Rows(rows.names, rows.labels, [0] + rows.lasts[1:], rows.fulls, rows.texts),
            Rows(rows.names, rows.labels, rows.lasts[:-1] + [0], rows.fulls, rows.texts),
            Rows(rows.names, rows.labels, rows.lasts, [0] * len(rows.fulls), rows.texts),
            Rows(rows.names, rows.labels, rows.lasts, rows.fulls[1:] + [1], rows.texts),
            Rows(["a"], [1, 1], [1, 1], [0, 1], []),
            Rows(["a"], [1, 0, 0], [1, 0, 1], [1, 0, 0], ["x", "y"]),
            Rows(["a"], [0], [1], [0], ["x"]),
            Rows([], [0], [1], [0], ["x"]),
            Rows([], [], [], [], []),
        ):
            self.assertIsNotNone(judge_rows(other))
            self.check_refused(Written(other).box())
        chained = rows_of(chain(60))
        deep = Rows(["a", "z"], [1] * 60 + [2], [1] * 61, [1] * 60 + [0], [])
        self.assertEqual(unpack(Written(chained).box()).labels, chained.labels)
        self.check_refused(Written(deep).box())
        many = Rows(["a"], [1] * 5001, [1] + [0] * 4999 + [1], [1] + [0] * 5000, [])
        self.check_refused(Written(many).box())
        many = Rows(["a"], [1] * 5000, [1] + [0] * 4998 + [1], [1] + [0] * 4999, [])
        self.assertTrue(same_rows(unpack(Written(many).box()), many))

    def test_letters_beyond_z(self):
        rows = rows_of(("z", []))
        bits = Written(rows).bits()
        self.assertEqual(bits[6:11], "11001")
        for letter in ("11010", "11111"):
            changed = bits[:6] + letter + bits[11:]
            changed += "0" * (-len(changed) % 8)
            self.check_refused([int(changed[k:k + 8], 2) for k in range(0, len(changed), 8)])

    def test_huge_integers_in_steps(self):
        rows = rows_of(("a", ["x"]))
        for number in (5001, 8190, 8191, 10 ** 6, 2 ** 64, 2 ** 1000, 2 ** 30000):
            for part in ("many_names", "many_rows"):
                self.check_refused(Written(rows, **{part: number}).box())
            bits = "".join(list(Written(rows).parts())[:-1]) + steps(number)
            self.check_refused([int(bits[k:k + 8].ljust(8, "0"), 2) for k in range(0, len(bits), 8)])
            bits = steps(1) + steps(number)
            self.check_refused([int(bits[k:k + 8].ljust(8, "0"), 2) for k in range(0, len(bits), 8)] + [0] * 1000)
            bits = "".join(list(Written(rows).parts())[:2]) + steps(number)
            self.check_refused([int(bits[k:k + 8].ljust(8, "0"), 2) for k in range(0, len(bits), 8)] + [255] * 1000)

    def test_long_lengths_of_codes(self):
        # Full lengths from 1 to nearly 3000, with names for all of them.
        names = many_names(2999)
        lengths = [*range(1, 3000), 2999]
        rows = Rows(names, [0] * 3000, [1] * 3000, [0] * 3000, [])
        written = Written(rows, label_lengths=lengths, labels=[0] * 3000)
        self.check_refused(written.box())
        code = code_of(lengths)
        self.assertEqual(len(code[-1]), 2999)
        self.check_refused(Written(rows, label_lengths=lengths, labels=[2999] * 40).box())

    def test_drawn_lists(self):
        dice = random.Random(52)
        for _ in range(2000):
            self.check_refused([dice.randrange(256) for _ in range(dice.randrange(60))])

    def test_drawn_changes(self):
        dice = random.Random(53)
        trees = documents()
        loaded = 0
        for _ in range(1500):
            numbers = pack(rows_of(dice.choice(trees)))
            changed = list(numbers)
            for _ in range(dice.choice([1, 1, 2, 3])):
                at = dice.randrange(len(changed))
                changed[at] ^= 1 << dice.randrange(8)
            if changed != numbers:
                loaded += self.check_changed(changed, numbers)
        self.assertGreater(loaded, 20)


if __name__ == "__main__":
    unittest.main()
