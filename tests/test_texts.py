import copy
import random
import unittest

import reference
import slow_house
from eachsecond.errors import BadText
from eachsecond.houses import House
from eachsecond.texts import parse, printed
from house_samples import SIMPLE, drawn_facts
from samples import STRANGE, as_lists, mixed, plain

MILLION = 10 ** 6
TWELVE = tuple((str(100 + k) if k else "", "z" + "abcdefghijkl"[k]) for k in range(12))
FORTY = tuple(("far", name, k) for k, name in enumerate(sorted(a + b for a in "abcd" for b in "abcdefghij")))
PAIRS = (
    (("hold", ("4000", 5), 0, ("ann", None)), "hold 4000 5 0 ann -"),
    (("hold", ("12345678", 10 ** 8), 1000, (None, "north")), "hold 12345678 100000000 1000 - north"),
    (("hold", ("000", 0), 0, (None, None)), "hold 000 0 0 - -"),
    (("hold", ("000", 0), 10, None), "hold 000 0 10 *"),
    (("forward", ("11", 0), 1, ("4000",)), "forward 11 0 1 4000"),
    (("forward", ("11", 0), 1, (None,)), "forward 11 0 1 -"),
    (("forward", ("11", 0), 1, None), "forward 11 0 1 *"),
    (("uses", ("ann", 7), 2, "plain"), "uses ann 7 2 plain"),
    (("uses", ("ann", 7), 2, None), "uses ann 7 2 *"),
    (("tariff", ("plain", 9), 0, (50, (("", "far"), ("40", "home")), (("far", "high", 9), ("far", "low", 0),
                                                                      ("home", "high", 2)))),
     "tariff plain 9 0 50 :far 40:home far/high/9 far/low/0 home/high/2"),
    (("tariff", ("plain", 9), 0, (0, (("", "far"),), ())), "tariff plain 9 0 0 :far"),
    (("tariff", ("plain", 9), 0, (MILLION, (("", "far"), ("0", "a"), ("00", "b"), ("000", "c"), ("1", "far")),
                                  (("zz", "b", MILLION),))),
     "tariff plain 9 0 1000000 :far 0:a 00:b 000:c 1:far zz/b/1000000"),
    (("tariff", ("plain", 9), 0, None), "tariff plain 9 0 *"),
    (("bundle", ("ann", 3, "any"), 0, (25, ("far", "home"), ("high",))), "bundle ann 3 any 0 25 far,home high"),
    (("bundle", ("ann", 1000, "any"), 0, (10 ** 9, (), ())), "bundle ann 1000 any 0 1000000000 - -"),
    (("bundle", ("ann", 3, "any"), 0, None), "bundle ann 3 any 0 *"),
    (("piece", ("call", 2), 3, ("4000", "11", 17, 60)), "piece call 2 3 4000 11 17 60"),
    (("piece", ("call", 100), 3, ("4000", "40001234", 0, MILLION)), "piece call 100 3 4000 40001234 0 1000000"),
    (("piece", ("call", 2), 3, None), "piece call 2 3 *"),
    (("tariff", ("t", 0), 0, (0, TWELVE, FORTY)), "tariff t 0 0 0 " + " ".join(f"{p}:{z}" for p, z in TWELVE) + " "
     + " ".join(f"{z}/{b}/{n}" for z, b, n in FORTY)),
)


def bad_word(text):
    """The number that BadText tells; None if the text is that of a fact."""
    try:
        parse(text)
    except BadText as error:
        assert type(error.at) is int
        return error.at
    return None


def decimal(word, most):
    return reference.made_of(word, "0123456789", 1, 10) and str(int(word)) == word and int(word) <= most


def names(word):
    parts = () if word == "-" else tuple(word.split(","))
    return (reference.rows(parts, 0, 12) and all(reference.word(part) for part in parts)
            and reference.strictly_ascending(parts))


def long(word):
    return reference.number(word) and len(word) > 2


# What may stand behind the kind, word by word; behind the version of a tariff anything that stands there by its rules.
FORMS = {
    "hold": (long, lambda word: decimal(word, 10 ** 8), lambda word: decimal(word, 1000),
             lambda word: word == "-" or reference.word(word), lambda word: word == "-" or reference.word(word)),
    "forward": (reference.number, lambda word: decimal(word, 10 ** 8), lambda word: decimal(word, 1000),
                lambda word: word == "-" or reference.number(word)),
    "uses": (reference.word, lambda word: decimal(word, 10 ** 8), lambda word: decimal(word, 1000), reference.word),
    "tariff": (reference.word, lambda word: decimal(word, 10 ** 8), lambda word: decimal(word, 1000),
               lambda word: decimal(word, MILLION)),
    "bundle": (reference.word, lambda word: decimal(word, 1000), reference.word, lambda word: decimal(word, 1000),
               lambda word: decimal(word, 10 ** 9), names, names),
    "piece": (reference.word, lambda word: decimal(word, 100), lambda word: decimal(word, 1000), long, reference.number,
              lambda word: decimal(word, 10 ** 8), lambda word: decimal(word, MILLION)),
}
VERSIONS = {"hold": 3, "forward": 3, "uses": 3, "tariff": 3, "bundle": 4, "piece": 3}


def tariff_rows(words):
    """Zones and prices of the words; None if one of them is neither."""
    zones, prices = [], []
    for word in words:
        if word.count(":") == 1 and not prices:
            zones.append(tuple(word.split(":")))
        elif word.count("/") == 2 and decimal(word.split("/")[2], MILLION):
            prices.append((*word.split("/")[:2], int(word.split("/")[2])))
        else:
            return None
    return zones, prices


def first_bad(text):
    """The same as bad_word, as the document says it."""
    if type(text) is not str:
        return 0
    words = text.split(" ")
    if words[0] not in FORMS:
        return 0
    form = FORMS[words[0]]
    value = VERSIONS[words[0]] + 1
    void = len(words) > value and words[value] == "*"
    for at in range(1, len(words)):
        if void and at >= value:
            return None if len(words) == value + 1 else value + 1
        if at <= len(form):
            if not form[at - 1](words[at]):
                return at
        elif words[0] != "tariff":
            return at
        else:
            # A word may stand there if what stands so far is a tariff.
            rows = tariff_rows(words[len(form) + 1:at + 1])
            if rows is None or not reference.tariff((0, *rows)):
                return at
    if len(words) <= len(form) + (words[0] == "tariff"):
        return len(words)
    return None


class PrintedTest(unittest.TestCase):

    def test_texts_of_facts(self):
        for fact, text in PAIRS:
            for form in (tuple, as_lists, mixed):
                passed = form(fact)
                before = copy.deepcopy(passed)
                self.assertEqual(printed(passed), text)
                self.assertEqual(repr(passed), repr(before))
            self.assertEqual(printed(fact=fact), text)


class ParseTest(unittest.TestCase):

    def check(self, text):
        expected = first_bad(text)
        self.assertEqual(bad_word(text), expected, text)
        if expected is None:
            fact = parse(text)
            self.assertTrue(plain(fact))
            self.assertTrue(slow_house.is_fact(fact))
            self.assertEqual(printed(fact), text)
        return expected

    def test_facts_of_texts(self):
        for fact, text in PAIRS:
            self.assertEqual(parse(text), fact)
            self.assertEqual(parse(text=text), fact)
            self.assertTrue(plain(parse(text)))
            self.assertEqual(repr(parse(text)), repr(fact))
            self.assertIsNone(first_bad(text))

    def test_what_is_no_string(self):
        for strange in STRANGE + (PAIRS[0][0], House(*SIMPLE), [PAIRS[0][1]]):
            self.assertEqual(bad_word(strange), 0)

    def test_one_word(self):
        for text in ("", "holds", "Hold", "*", "-", "hold\n", "plan", "hold,"):
            self.assertEqual(self.check(text), 0)
        for kind in FORMS:
            self.assertEqual(self.check(kind), 1)
            self.assertEqual(self.check(kind + " "), 1)
            self.assertEqual(self.check(" " + kind), 0)

    def test_texts_that_end_too_early(self):
        for _, text in PAIRS:
            words = text.split(" ")
            for many in range(1, len(words)):
                self.check(" ".join(words[:many]))
        for text, many in (("hold 4000 5 0 ann", 5), ("hold 4000 5", 3), ("tariff t 0 0 5", 5), ("bundle a 0 b 0 1 -", 7),
                           ("piece c 0 0 4000 11 5", 7), ("forward 11 5 0", 4), ("uses ann 5 0", 4)):
            self.assertEqual(self.check(text), many)

    def test_texts_that_go_on(self):
        for _, text in PAIRS:
            words = text.split(" ")
            for more in ("", "*", "-", "a", "0", "11", ":a", "0:a", "a/b/0", "far"):
                told = self.check(" ".join(words + [more]))
                if words[0] != "tariff" or "*" in words:
                    self.assertEqual(told, len(words))

    def test_a_void_value_stands_alone(self):
        for text, at in (("hold 4000 5 0 * *", 5), ("hold 4000 5 0 * -", 5), ("hold 4000 5 0 ann *", 5),
                         ("uses ann 0 0 * ", 5), ("tariff t 0 0 * :far", 5), ("tariff t 0 0 5 *", 5),
                         ("bundle a 0 b 0 25 * -", 6), ("piece c 0 0 4000 *", 5), ("piece c 0 *", 3), ("* 4000", 0)):
            self.assertEqual(self.check(text), at)

    def test_integers(self):
        for text, place, most in (
                ("hold 4000 5 0 ann -", 2, 10 ** 8), ("forward 11 5 0 -", 3, 1000), ("uses ann 5 0 plain", 2, 10 ** 8),
                ("tariff t 5 0 5 :far", 4, MILLION), ("bundle a 5 b 0 5 - -", 2, 1000),
                ("bundle a 5 b 0 5 - -", 5, 10 ** 9), ("piece c 5 0 4000 11 5 5", 2, 100),
                ("piece c 5 0 4000 11 5 5", 6, 10 ** 8), ("piece c 5 0 4000 11 5 5", 7, MILLION)):
            words = text.split(" ")
            for good in ("0", "9", str(most), str(most - 1)):
                self.assertIsNone(self.check(" ".join(words[:place] + [good] + words[place + 1:])))
            for bad in ("", "00", "01", "007", "+1", "-1", "-", "1.0", "1_0", "1e3", "a", str(most + 1), "9" * 11, "0" * 9,
                        "9" * 5000, "0x1", str(10 * most)):
                self.assertEqual(self.check(" ".join(words[:place] + [bad] + words[place + 1:])), place, bad[:20])

    def test_zones_of_tariffs(self):
        for text, at in (
                ("0:far", 5), ("far", 5), (":", 5), ("::far", 5), (":far :home", 6), (":far 1:a 1:b", 7), (":far 2:a 1:b", 7),
                (":far 1:a 10:b 2:c", None), (":far 10:a 1:b", 7), (":far 1234:a", 6), (":far x:a", 6), (":far 1:A", 6),
                (":far 1:", 6), (":far 1: :a", 6), (":far 1:a:b", 6), (":far a/b/1 1:c", 7), (":far 1", 6),
                ("a/b/1 :far", 5), (":far a/b/1 :far", 7)):
            self.assertEqual(self.check("tariff t 0 0 5 " + text), at, text)

    def test_prices_of_tariffs(self):
        for text, at in (
                ("a/b/1 a/b/2", 7), ("a/b/1 a/b/1", 7), ("a/b/2 a/a/1", 7), ("a/b/1 a/c/0 b/a/0", None), ("b/a/1 a/b/2", 7),
                ("a/b", 6), ("a/b/1/2", 6), ("a/b/", 6), ("a//1", 6), ("/b/1", 6), ("a/b/01", 6), ("a/b/1000001", 6),
                ("a/b/1000000", None), ("A/b/1", 6), ("a/b/-1", 6), ("a/b/x", 6), ("*", 6), ("-", 6)):
            self.assertEqual(self.check("tariff t 0 0 5 :far " + text), at, text)

    def test_the_most_zones_and_prices(self):
        text = PAIRS[-1][1]
        words = text.split(" ")
        self.assertIsNone(self.check(text))
        self.assertEqual(self.check(text + " zz/z/0"), len(words))
        self.assertEqual(self.check(" ".join(words[:17] + ["999:zz"] + words[17:])), 17)
        self.assertIsNone(self.check(" ".join(words[:17])))

    def test_names_of_bundles(self):
        twelve = ",".join("abcdefghijkl")
        for word, good in (("-", True), ("a", True), ("a,b", True), ("b,a", False), ("a,a", False), ("", False), (",", False),
                           ("a,", False), (",a", False), ("a,,b", False), ("a;b", False), ("-,a", False), ("a,-", False),
                           ("A", False), (twelve, True), (twelve + ",m", False), ("a,B", False), ("*", False)):
            for at in (6, 7):
                words = "bundle a 0 b 0 5 - -".split(" ")
                words[at] = word
                self.assertEqual(self.check(" ".join(words)), None if good else at, word)

    def test_each_word_spoilt_left_out_doubled_or_exchanged(self):
        spoilt = ("", "*", "-", "A", "a", "abcdefgh", "abcdefghi", "0", "00", "01", "11", "123", "123456789", "1000",
                  "1001", "1000000", "1000001", "100000000", "100000001", "1000000000", "1000000001", ":a", "9:a", "1000:a",
                  "a/b/1", "z/z/0", "a,b", "b,a", "hold", "a\n", "\n", "~", "a:b", "None", "1 ", "+1")
        for _, text in PAIRS[:-1]:
            words = text.split(" ")
            for at in range(len(words)):
                for word in spoilt:
                    told = self.check(" ".join(words[:at] + [word] + words[at + 1:]))
                    self.assertTrue(told is None or told >= at)
                    self.check(" ".join(words[:at] + [word] + words[at:]))
                self.check(" ".join(words[:at] + words[at + 1:]))
                self.check(" ".join(words[:at + 1] + words[at:]))
                for other in range(at):
                    changed = list(words)
                    changed[at], changed[other] = changed[other], changed[at]
                    self.check(" ".join(changed))

    def test_each_sign_cut_off(self):
        for _, text in PAIRS:
            for many in range(len(text)):
                self.check(text[:many])
                self.check(text[many:])
                self.check(text[:many] + text[many + 1:])

    def test_longest_texts(self):
        self.assertEqual(self.check(" " * 19999), 0)
        self.assertEqual(self.check("uses " + "a" * 19000), 1)
        self.assertEqual(self.check("uses ann 5 0 plain" + " " * 19000), 5)
        self.assertEqual(self.check("hold " + "4" * 19000), 1)


class DrawnTest(unittest.TestCase):
    """[21] over drawn facts and texts."""

    def test_21_facts(self):
        chance = random.Random(20261120)
        for fact in drawn_facts(chance, 600):
            self.assertEqual(parse(printed(fact)), fact)
            self.assertEqual(printed(as_lists(fact)), printed(fact))

    def test_21_texts(self):
        chance = random.Random(20261121)
        texts = [printed(fact) for fact in drawn_facts(chance, 300)] + [text for _, text in PAIRS]
        words = sorted({word for text in texts for word in text.split(" ")})
        taken = 0
        for _ in range(20000):
            changed = chance.choice(texts).split(" ")
            at = chance.randrange(len(changed))
            changed[at:at + chance.randint(0, 1)] = [chance.choice(words)]
            text = " ".join(changed)
            told = bad_word(text)
            self.assertEqual(told, first_bad(text), text)
            if told is None:
                taken += 1
                self.assertEqual(printed(parse(text)), text)
        self.assertGreater(taken, 1000)


if __name__ == "__main__":
    unittest.main()
