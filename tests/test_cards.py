"""What text is a card, seen through order: -8 for no card, -4 where only the pool is missing."""

import unittest

from tests.helper import ask, card_text, is_card, pool_line

LONG_NUMBERS = ("1" + "0" * 4299, "1" + "0" * 4300, "9" * 5000, "0" * 5000, "0" * 4999 + "1", "1" * 60000)


def with_pool(races=("race 4",) * 6, **fields):
    return card_text(races, [pool_line(**fields)])


class Cards(unittest.TestCase):
    def yes(self, card):
        self.assertTrue(is_card(card), card)

    def no(self, card):
        self.assertFalse(is_card(card), card)

    def both_sides(self, make, right, wrong):
        for value in right:
            self.yes(make(value))
        for value in wrong:
            self.no(make(value))


class Texts(Cards):
    def test_ordinary(self):
        self.yes(card_text())
        self.yes(card_text(pools=[]))
        self.yes(card_text(["race 8 couple 1 2 couple 3 4", "race 12"], [
            pool_line("win", none="carry"), pool_line("trio", "order", "3", "2", none="fewer"),
            pool_line("pair", "any", "2"), pool_line("double", "legs", "2", least="0")]))

    def test_empty_and_nearly_empty(self):
        for text in ("", "\n", "\n\n", " ", "day", "day\n", "day \n", "day d", "day d\n", "race 2\n", pool_line()):
            self.no(text)

    def test_longest_text(self):
        self.assertEqual(ask([97] * 65536, [], [], 0), [-8])
        self.assertEqual(ask([97] * 65537, [], [], 0), [-2])
        self.assertEqual(ask([97] * 66000, [], [], 0), [-2])
        self.assertEqual(ask(card_text() + "\n" * (65536 - len(card_text())), [], [], 0), [-8])
        self.assertEqual(ask(card_text() + "\n" * (65537 - len(card_text())), [], [], 0), [-2])
        for piece in (" ", "\n", "race 2\n", "0", " couple 1 2", pool_line()):
            filled = (card_text() + piece * 65536)[:65536]
            self.assertEqual(ask(filled, [], [], 0), [-8])

    def test_last_line_without_its_nl(self):
        self.no(card_text()[:-1])
        self.no(card_text(pools=[])[:-1])
        self.no(card_text() + card_text()[-10:])

    def test_every_text_cut_short(self):
        whole = card_text(["race 4 couple 1 2"], [pool_line(), pool_line("b")])
        right = [at for at in range(len(whole) + 1) if is_card(whole[:at])]
        line_ends = [at + 1 for at in range(len(whole)) if whole[at] == "\n"]
        self.assertEqual(right, line_ends[1:])

    def test_lines_too_many(self):
        self.no("\n" + card_text())
        self.no(card_text() + "\n")
        self.no(card_text() + " \n")
        self.no(card_text().replace("\nrace", "\n\nrace"))
        self.no(card_text().replace("\npool", "\n\npool"))
        self.no("day d\n" + card_text())

    def test_blanks_too_many_or_too_few(self):
        whole = card_text(["race 4 couple 1 2"])
        for at in range(len(whole) + 1):
            self.assertEqual(is_card(whole[:at] + " " + whole[at:]), False, at)
        for at in [at for at in range(len(whole)) if whole[at] == " "]:
            self.no(whole[:at] + whole[at + 1:])
            self.no(whole[:at] + "\n" + whole[at + 1:])
            self.no(whole[:at] + "\t" + whole[at + 1:])

    def test_bytes_that_stand_in_no_word(self):
        in_words = list(b"abcdefghijklmnopqrstuvwxyz0123456789")
        for byte in range(256):
            name = "day d".encode() + bytes([byte]) + "\nrace 4\n".encode()
            self.assertEqual(is_card(list(name)), byte in in_words, byte)
            self.assertFalse(is_card(list(b"day d\nrace 4\n" + bytes([byte]))), byte)
            first = b"day " + bytes([byte]) + b"\nrace 4\n"
            self.assertEqual(is_card(list(first)), byte in in_words[:26], byte)
            digit = b"day d\nrace 1" + bytes([byte]) + b"\n"
            self.assertEqual(is_card(list(digit)), byte in in_words[26:], byte)

    def test_other_signs_of_digits_and_line_ends(self):
        self.no(card_text().replace("\n", "\r\n"))
        self.no(card_text().replace("\n", "\r"))
        for number in ("+4", "-4", "4.", "4_0", "\xb2", "1\xb9", "x4", "4x", "four"):
            self.no(card_text(["race " + number]))

    def test_words(self):
        whole = card_text(["race 4 couple 1 2"])
        for word in ("day", "race", "couple", "pool", "place", "from", "take", "break", "least", "unit", "none",
                     "refund"):
            self.assertEqual(whole.count(word), 1)
            for other in (word.upper(), word + "s", word[:-1], "", "pool" if word != "pool" else "race"):
                self.no(whole.replace(word, other))

    def test_words_out_of_their_order(self):
        words = pool_line(least="0").split()
        for at in range(len(words) - 1):
            swapped = words[:at] + [words[at + 1], words[at]] + words[at + 2:]
            self.no(card_text(pools=[" ".join(swapped) + "\n"]))
        self.no(card_text(pools=[" ".join(words + ["none"]) + "\n"]))
        self.no(card_text(pools=[" ".join(words[:-1]) + "\n"]))

    def test_names_of_lines_words(self):
        self.yes(card_text(["race 4"], [pool_line("pool"), pool_line("race"), pool_line("day")], "day day"))


class Names(Cards):
    RIGHT = ("a", "z", "a0", "z9", "twelvebytes0", "abcdefghijkl", "a00000000000")
    WRONG = ("", "thirteenbytes", "abcdefghijklm", "0", "9a", "A", "aB", "a-b", "a_b", "\xe9", "a" * 60000)

    def test_of_days(self):
        self.both_sides(lambda name: card_text(day="day " + name), self.RIGHT, self.WRONG)

    def test_of_pools(self):
        self.both_sides(lambda name: with_pool(name=name), self.RIGHT, self.WRONG)

    def test_of_pools_differ(self):
        self.yes(card_text(pools=[pool_line("a"), pool_line("b"), pool_line("aa")]))
        self.no(card_text(pools=[pool_line("a"), pool_line("a")]))
        self.no(card_text(pools=[pool_line("a"), pool_line("b"), pool_line("a", "order", "2")]))
        self.yes(card_text(pools=[pool_line("same")], day="day same"))


class Numbers(Cards):
    def fields(self):
        yield lambda number: card_text(["race " + number])
        yield lambda number: card_text([f"race 24 couple {number} 24"])
        yield lambda number: card_text([f"race 24 couple 1 {number}"])
        for field in ("k", "race", "take", "brk"):
            yield lambda number, field=field: with_pool(**{field: number})
        yield lambda number: with_pool(least=number, unit="3")
        yield lambda number: with_pool(unit=number, least="0")

    def test_zero_in_front(self):
        for make in self.fields():
            self.yes(make("4"))
            for number in ("04", "004", "00", "0000000004"):
                self.no(make(number))

    def test_some_thousands_of_digits(self):
        for make in self.fields():
            for number in LONG_NUMBERS:
                self.no(make(number))

    def test_six_digits_and_more(self):
        for make in self.fields():
            for number in ("99999", "100000", "4294967296", "18446744073709551616"):
                self.no(make(number))

    def test_zero(self):
        self.yes(with_pool(take="0"))
        self.yes(with_pool(least="0"))
        for field in ("k", "race", "brk"):
            self.no(with_pool(**{field: "0"}))
        self.no(with_pool(unit="0", least="0"))
        self.no(card_text(["race 0"]))
        self.no(card_text(["race 4 couple 0 1"]))


class Races(Cards):
    def test_runners(self):
        self.both_sides(lambda runners: f"day d\nrace {runners}\n", (2, 3, 9, 10, 23, 24), (0, 1, 25, 99, 100))

    def test_how_many(self):
        self.both_sides(lambda count: card_text(["race 4"] * count, []), (1, 2, 15, 16), (0, 17, 18, 5000))

    def test_no_race(self):
        self.no(card_text([], []))
        self.no(card_text([]))

    def test_behind_pools(self):
        self.no(card_text() + "race 4\n")
        self.no(card_text() + "race 4\n" + pool_line("b"))
        self.no("day d\n" + pool_line() + "race 4\n")
        self.no("race 4\nday d\n")

    def test_forms(self):
        for race in ("race", "race ", "race 4 ", "race 4 5", "race 4 couple", "race 4 couple 1", "race 4 couple 1 2 3",
                     "race 4 1 2", "race 4 1 2 couple", "race 4 couple 1 2 couple 3", "race 4 couple 1 2 4 3 4"):
            self.no(card_text([race]))


class Couples(Cards):
    def interests(self, race):
        card = card_text([race])
        answers = [ask(card, [], [runner])[0] for runner in range(0, 26)]
        self.assertEqual(set(answers) - {-1, -3}, set(), race)
        return [runner for runner in range(0, 26) if answers[runner] == -3]

    def test_heads(self):
        self.assertEqual(self.interests("race 4"), [1, 2, 3, 4])
        self.assertEqual(self.interests("race 24"), list(range(1, 25)))
        self.assertEqual(self.interests("race 4 couple 1 2"), [1, 3, 4])
        self.assertEqual(self.interests("race 4 couple 2 4 couple 1 3"), [1, 2])
        self.assertEqual(self.interests("race 5 couple 2 3 couple 2 5 couple 2 4"), [1, 2])
        self.assertEqual(self.interests("race 2 couple 1 2"), [1])

    def test_bounds_of_a_and_b(self):
        self.both_sides(lambda pair: card_text([f"race 6 couple {pair}"]),
                        ("1 2", "1 6", "5 6"), ("0 1", "0 6", "1 7", "6 7", "7 8", "1 1", "6 6", "2 1", "6 1"))

    def test_a_or_b_named_before(self):
        self.yes(card_text(["race 6 couple 1 2 couple 1 3"]))
        self.yes(card_text(["race 6 couple 3 4 couple 1 2"]))
        self.no(card_text(["race 6 couple 1 2 couple 2 3"]))
        self.no(card_text(["race 6 couple 2 3 couple 1 2"]))
        self.no(card_text(["race 6 couple 1 3 couple 2 3"]))
        self.no(card_text(["race 6 couple 1 2 couple 1 2"]))
        self.no(card_text(["race 6 couple 1 2 couple 3 4 couple 2 5"]))
        self.no(card_text(["race 6 couple 3 4 couple 5 6 couple 1 3"]))
        self.no(card_text(["race 6 couple 3 4 couple 5 6 couple 1 4"]))

    def test_another_lines_couples_dont_count(self):
        self.yes(card_text(["race 6 couple 1 2", "race 6 couple 2 3", "race 6 couple 1 2"]))

    def test_how_many_in_a_line(self):
        def heads(count):
            return card_text(["race 24" + "".join(f" couple {2 * i + 1} {2 * i + 2}" for i in range(count))])

        def one_head(count):
            return card_text(["race 24" + "".join(f" couple 1 {i + 2}" for i in range(count))])

        self.both_sides(heads, (0, 1, 7, 8), (9, 10, 12))
        self.both_sides(one_head, (0, 1, 7, 8), (9, 10, 23))
        self.no(card_text(["race 24" + " couple 1 2" * 5000]))


class Pools(Cards):
    def test_how_many(self):
        self.both_sides(lambda count: card_text(pools=[pool_line(f"p{i}") for i in range(count)]),
                        (0, 1, 2, 63, 64), (65, 66, 500))

    def test_k_of_each_kind(self):
        for kind, least, most in (("place", 1, 4), ("order", 2, 4), ("any", 2, 3), ("legs", 2, 6)):
            for k in range(0, 12):
                card = card_text(["race 12"] * 16, [pool_line(kind=kind, k=str(k))])
                self.assertEqual(is_card(card), least <= k <= most, (kind, k))

    def test_kinds(self):
        for kind in ("", "win", "places", "plac", "first", "fewer"):
            self.no(with_pool(kind=kind))

    def test_race(self):
        for races in (1, 2, 9, 16):
            for kind, k in (("place", "1"), ("order", "2"), ("any", "3")):
                self.both_sides(lambda race: with_pool(["race 4"] * races, kind=kind, k=k, race=race),
                                (1, races), (0, races + 1, races + 2, 17))

    def test_legs_up_to_the_last_race(self):
        for races in (1, 2, 3, 6, 16):
            for k in range(2, 7):
                for race in range(0, races + 2):
                    card = with_pool(["race 4"] * races, kind="legs", k=k, race=race)
                    self.assertEqual(is_card(card), 1 <= race <= races + 1 - k, (races, k, race))

    def test_legs_over_races_of_one_interest(self):
        self.yes(with_pool(["race 2 couple 1 2"] * 6, kind="legs", k="6"))

    def test_more_k_than_interests(self):
        for kind, ks in (("place", (1, 2, 3, 4)), ("order", (2, 3, 4)), ("any", (2, 3))):
            for k in ks:
                for interests in range(1, 6):
                    race = "race 6" + "".join(f" couple 1 {b}" for b in range(2, 8 - interests))
                    card = with_pool(["race 9", race, "race 9"], kind=kind, k=k, race="2")
                    self.assertEqual(is_card(card), k <= interests, (kind, k, interests))

    def test_take(self):
        self.both_sides(lambda take: with_pool(take=take), (0, 1, 399, 400), (401, 402, 1000, 4000))

    def test_break(self):
        self.both_sides(lambda brk: with_pool(brk=brk), (1, 2, 999, 1000), (0, 1001, 1002, 10000))

    def test_unit(self):
        self.both_sides(lambda unit: with_pool(unit=unit, least="0"), (1, 2, 9999, 10000), (0, 10001, 10002, 20000))

    def test_least_against_unit(self):
        for unit in (1, 2, 7, 100, 10000):
            self.both_sides(lambda least: with_pool(unit=unit, least=least), (0, unit, unit + 1, 2 * unit),
                            (2 * unit + 1, 2 * unit + 2) + tuple(i for i in (1, unit // 2, unit - 1) if 0 < i < unit))

    def test_none(self):
        for kind, k in (("place", "1"), ("place", "4"), ("order", "2"), ("any", "2"), ("legs", "2")):
            self.both_sides(lambda none: with_pool(kind=kind, k=k, none=none), ("refund", "carry"),
                            ("", "none", "refunds", "few", "carry refund"))

    def test_fewer_of_place(self):
        for k in "1234":
            self.no(with_pool(kind="place", k=k, none="fewer"))
        for kind, k in (("order", "2"), ("order", "4"), ("any", "2"), ("any", "3"), ("legs", "2"), ("legs", "6")):
            self.yes(with_pool(kind=kind, k=k, none="fewer"))

    def test_one_wrong_line_spoils_the_card(self):
        self.no(card_text(["race 4", "race 1"]))
        self.no(card_text(pools=[pool_line(), pool_line("b", take="401")]))
        self.no(card_text(pools=[pool_line("b", take="401"), pool_line()]))


if __name__ == "__main__":
    unittest.main()
