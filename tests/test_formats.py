"""Tests of texts: written, read again, and bent in one place."""

import itertools
import random
import re
import unittest

from levelhues.base.webs import Web
from levelhues.errors import InvalidOperation, InvalidRow, InvalidWeb, ParseError
from levelhues.hue.chains import chain
from levelhues.text.formats import (
    read_chain,
    read_rounds,
    read_row,
    read_web,
    write_chain,
    write_rounds,
    write_row,
    write_web,
)
from levelhues.ties.rounds import rounds
from plain import BARE, FULL, LOTS, TIGHT, TRIANGLES, some_webs
from samples import HUGE, RING, STAR, Case, all_webs, any_values, but, wrong_webs

LOTTED = (((0, 1), (2, 3)), ((1, 2), (3, 4)), ((0, 4),))
NUMBER = "(0|[1-9][0-9]*)"
# Words that stand where a number should, and are none.
NO_NUMBERS = ["", "-1", "+1", "01", "00", "1.0", "1_0", "x", "one", "0x1", "1e2", "-", "--", " 1", "1 ", "None", "True", "()", "1,", "'1'"]
NO_STRINGS = [value for value in any_values() if not isinstance(value, str)]


def plain_read(kind, text):
    """What the words of the document tell of a text: its value, or the index of the line at fault."""
    lines = text.split("\n")
    ahead, found = None, []
    for at, line in enumerate(lines):
        if kind == "web" and at == 0:
            match = re.fullmatch("web " + NUMBER, line)
            value = int(match[1]) if match else None
        elif kind == "web":
            match = re.fullmatch(f"tie {NUMBER} {NUMBER}", line)
            value = (int(match[1]), int(match[2])) if match else None
            if value and (value[0] >= value[1] or at > 1 and value <= ahead):
                value = None
        elif kind == "row":
            match = re.fullmatch(f"row( {NUMBER})+", line)
            value = tuple(int(word) for word in line.split()[1:]) if match and at == 0 else None
        elif kind == "chain":
            match = re.fullmatch(f"move {NUMBER} {NUMBER}", line)
            value = (int(match[1]), int(match[2])) if match else None
        else:
            value = plain_round(line)
        if value is None:
            return ("fault", at)
        ahead = value
        found.append(value)
    return ("value", found)


def plain_round(line):
    if line == "round -":
        return ()
    if not re.fullmatch(f"round( {NUMBER}-{NUMBER})+", line):
        return None
    ties = tuple(tuple(int(number) for number in word.split("-")) for word in line.split()[1:])
    fits = all(one < other for one, other in ties) and all(one < other for one, other in zip(ties, ties[1:]))
    return ties if fits else None


def bent(text):
    """Texts that differ from one in one place."""
    signs = " \n-0123wtrmxo"
    for at in range(len(text) + 1):
        for sign in signs:
            yield text[:at] + sign + text[at:]
            yield text[:at] + sign + text[at + 1:]
        yield text[:at] + text[at + 1:]
    lines = text.split("\n")
    for at in range(len(lines)):
        yield "\n".join(lines[:at] + lines[at + 1:])
        yield "\n".join(lines[:at + 1] + lines[at:])
        for other in range(at):
            yield "\n".join([*lines[:other], lines[at], *lines[other + 1:at], lines[other], *lines[at + 1:]])


class TextCase(Case):
    def assert_read(self, kind, read, text):
        """Check what reading a text gives, against the words of the document."""
        told, value = plain_read(kind, text)
        with self.subTest(text=text):
            if told == "fault":
                self.assert_keeps(ParseError, value, read, text)
            elif kind == "web":
                size, ties = value[0], tuple(value[1:])
                if 1 <= size <= 10 and all(other < size for _, other in ties):
                    web = read(text)
                    self.assert_same([web.size, web.ties], [size, ties])
                    self.assert_same(web.degrees, tuple(sum(place in tie for tie in ties) for place in range(size)))
                else:
                    self.assert_raises(InvalidWeb, read, text)
            else:
                self.assert_same(read(text), value[0] if kind == "row" else tuple(value))

    def assert_no_strings(self, read):
        for value in NO_STRINGS:
            self.assert_keeps(ParseError, None, read, value)


class WebTextTest(TextCase):
    def assert_written(self, web):
        """Check the text of a web, and return it."""
        text = write_web(web)
        lines = [f"web {web.size}"] + [f"tie {one} {other}" for one, other in web.ties]
        self.assert_same(text, "\n".join(lines))
        return text

    def test_written_and_read_again(self):
        for web in [*all_webs(4), *all_webs(5)[-1024::9], *some_webs(181, 40, 6, 10), Web(10), Web.path(10), Web.full(10)]:
            text = self.assert_written(web)
            again = read_web(text)
            self.assertTrue(again == web)
            self.assert_same(again, web)
            self.assert_same(write_web(again), text)

    def test_wide_webs_are_written_and_not_read(self):
        joined = [Web.path(10) | Web(1), Web(1) + Web(10), Web.full(10) | Web.path(5), Web(9) + Web(2)]
        for web in [*some_webs(183, 40, 11, 20), *TIGHT, *joined, BARE, FULL, LOTS, TRIANGLES]:
            text = self.assert_written(web)
            self.assert_raises(InvalidWeb, read_web, text)
            # A part of such a web that is narrow enough is read.
            part = web.part(tuple(range(10)))
            self.assert_same(read_web(write_web(part)), part)

    def test_known_texts(self):
        self.assert_same(write_web(Web(1)), "web 1")
        self.assert_same(read_web("web 1"), Web(1))
        self.assert_same(read_web("web 5\ntie 0 1\ntie 0 4\ntie 1 2\ntie 2 3\ntie 3 4"), RING)
        self.assert_same(read_web("web 10"), Web(10))
        self.assert_same(read_web("web 10\ntie 0 9"), Web(10, ((0, 9),)))
        self.assert_same(read_web("web 10\ntie 2 9\ntie 8 9"), Web(10, ((2, 9), (8, 9))))

    def test_sizes(self):
        for size in (*range(25), 99, 100, 101, 110, 1000, 9999):
            behind = ["", "\ntie 0 1", "\ntie 0 1\ntie 0 2\ntie 1 2", f"\ntie 0 {size}", f"\ntie 0 1\ntie 1 {size + 1}", "\ntie 0 1\ntie 1 0"]
            behind += [f"\ntie {size - 2} {size - 1}", f"\ntie 0 {size - 1}\ntie 1 {size}"] if size > 1 else []
            for ties in behind:
                self.assert_read("web", read_web, f"web {size}{ties}")
        for size in range(1, 11):
            self.assert_same(read_web(f"web {size}"), Web(size))
            self.assert_same(read_web(write_web(Web.full(size))), Web.full(size))
        for size in (0, *range(11, 22)):
            for ties in ("", "\ntie 0 1", "\ntie 0 1\ntie 0 9\ntie 8 9"):
                self.assert_raises(InvalidWeb, read_web, f"web {size}{ties}")

    def test_bent_texts(self):
        for web in (Web(1), Web(2).tied(0, 1), Web.path(4), Web.full(3) | Web(7), Web.full(3) | Web(9)):
            for text in bent(write_web(web)):
                self.assert_read("web", read_web, text)

    def test_lines_at_fault(self):
        head = "web 5\ntie 0 1\ntie 1 2"
        for line in ("", " ", "tie", "tie 3", "tie 3 4 5", "tie 3  4", " tie 3 4", "tie 3 4 ", "Tie 3 4", "tie 4 3", "tie 3 3", "tie 1 2", "tie 0 2", "tie 3-4", "web 5", "move 3 4", "row 3 4", "tie 3,4"):
            for rest in ("", "\ntie 3 4", "\nnothing"):
                self.assert_keeps(ParseError, 3, read_web, f"{head}\n{line}{rest}")
        for line in ("", "web", "web ", "web 5 5", "web  5", " web 5", "web 5 ", "Web 5", "tie 0 1", "5", "row 5", "web\n5"):
            for rest in ("", "\ntie 0 1", "\nnothing"):
                self.assert_keeps(ParseError, 0, read_web, line + rest)
        for word in NO_NUMBERS:
            self.assert_keeps(ParseError, 0, read_web, f"web {word}\nnothing")
            self.assert_keeps(ParseError, 2, read_web, f"web 9\ntie 0 1\ntie {word} 9")
            self.assert_keeps(ParseError, 2, read_web, f"web 9\ntie 0 1\ntie 0 {word}")
        self.assert_keeps(ParseError, 191, read_web, write_web(FULL) + "\n")
        self.assert_keeps(ParseError, 191, read_web, write_web(FULL) + "\ntie 18 19")

    def test_sizes_and_places_come_last(self):
        texts = [
            "web 0", "web 11", "web 12", "web 19", "web 20", "web 21", "web 100", "web 9999", "web 0\ntie 0 1", "web 11\ntie 0 1", "web 11\ntie 9 10", "web 12\ntie 2 11\ntie 9 10",
            "web 20\ntie 0 1", "web 20\ntie 18 19", "web 20\ntie 0 20", "web 21\ntie 0 1", "web 2\ntie 0 2", "web 2\ntie 0 1\ntie 0 9999", "web 1\ntie 0 1", "web 10\ntie 0 10",
            "web 10\ntie 10 11", "web 10\ntie 0 9\ntie 9 10", "web 3\ntie 0 7\ntie 1 2",
        ]
        for text in texts:
            self.assert_raises(InvalidWeb, read_web, text)
            self.assert_keeps(ParseError, len(text.split("\n")), read_web, text + "\n")
        for size in (0, 1, 2, 10, 11, 20, 21):
            self.assert_keeps(ParseError, 1, read_web, f"web {size}\ntie 1 0")
            self.assert_keeps(ParseError, 1, read_web, f"web {size}\ntie 0 0\nnothing")
            self.assert_keeps(ParseError, 2, read_web, f"web {size}\ntie 0 5\ntie 0 4")

    def test_errors(self):
        self.assert_order(write_web, (RING, wrong_webs(), InvalidWeb))
        self.assert_no_strings(read_web)


class RowTextTest(TextCase):
    def test_written_and_read_again(self):
        rows = [*itertools.product(range(3), repeat=3), (4,), (0,) * 20, tuple(range(20)), (9999, 10, 100), tuple(range(1000)), (HUGE,)]
        for row in rows:
            text = write_row(row)
            self.assert_same(text, "row " + " ".join(map(str, row)))
            self.assert_same(read_row(text) if row != (HUGE,) else row, row)

    def test_bent_texts(self):
        for row in ((0,), (0, 1, 1), (10, 0, 2)):
            for text in bent(write_row(row)):
                self.assert_read("row", read_row, text)

    def test_lines_at_fault(self):
        for text in ("", "row", "row ", " row 1", "row  1", "row 1 ", "Row 1", "rows 1", "1", "web 1", "row 1  2", "row\n1", "\nrow 1", "row 1,2", "row 0-1"):
            self.assert_keeps(ParseError, 0, read_row, text)
        for text in ("row 1\n", "row 1\nrow 1", "row 1\n\n", "row 0 1\n2"):
            self.assert_keeps(ParseError, 1, read_row, text)
        for word in NO_NUMBERS:
            self.assert_keeps(ParseError, 0, read_row, f"row 0 {word} 1")
            self.assert_keeps(ParseError, 0, read_row, f"row {word}")

    def test_errors(self):
        wrong = [
            *[value for value in any_values() if not is_row_text(value)], (), (0, -1), (0, True), (0, None), [0, 1], (0, "1"), (0, (1,)), {0: 1}, (-HUGE,),
        ]
        self.assert_order(write_row, ((0, 1), wrong, InvalidRow))
        self.assert_no_strings(read_row)


def is_row_text(value):
    return isinstance(value, tuple) and len(value) > 0 and all(type(hue) is int and hue >= 0 for hue in value)


class ChainTextTest(TextCase):
    def test_written_and_read_again(self):
        chains = [((3, 1), (0, 2)), ((0, 0),), ((1, 0), (1, 0)), ((9999, 0), (0, 9999), (19, 19)), tuple((at, at + 1) for at in range(500))]
        chains += [chain(STAR, 6, (0, 1, 1, 1, 1, 1), 1, 5), chain(Web.path(4), 3, (0, 1, 0, 1), 0, 2)]
        for steps in chains:
            text = write_chain(steps)
            self.assert_same(text, "\n".join(f"move {place} {hue}" for place, hue in steps))
            self.assert_same(read_chain(text), steps)

    def test_bent_texts(self):
        for steps in (((0, 0),), ((3, 1), (0, 2), (10, 1))):
            for text in bent(write_chain(steps)):
                self.assert_read("chain", read_chain, text)

    def test_lines_at_fault(self):
        for line in ("", "move", "move 1", "move 1 2 3", "move  1 2", " move 1 2", "move 1 2 ", "Move 1 2", "moves 1 2", "tie 1 2", "move 1-2", "1 2"):
            for ahead in range(3):
                for rest in ("", "\nmove 1 2", "\n"):
                    self.assert_keeps(ParseError, ahead, read_chain, "move 2 1\n" * ahead + line + rest)
        for word in NO_NUMBERS:
            self.assert_keeps(ParseError, 1, read_chain, f"move 0 1\nmove {word} 1")
            self.assert_keeps(ParseError, 1, read_chain, f"move 0 1\nmove 1 {word}")

    def test_errors(self):
        wrong = [
            *[value for value in any_values() if repr(value) != "((0, 1), (1, 0))" and not is_chain_text(value)], (), ((0, 1), (0,)), ((0, 1), (0, 1, 2)), ((0, 1), [0, 1]),
            [(0, 1)], ((0, -1),), ((0, True),), ((False, 1),), ((0, None),), ((0, 1), None), (0, 1), ((0, "1"),), {(0, 1): 0}, ((-HUGE, 0),), ((0, (1,)),),
        ]
        self.assert_order(write_chain, (((1, 0),), wrong, InvalidOperation))
        self.assert_no_strings(read_chain)
        self.assert_same(write_chain(((HUGE, 0),)), f"move {HUGE} 0")


def is_chain_text(value):
    return isinstance(value, tuple) and len(value) > 0 and all(is_row_text(step) and len(step) == 2 for step in value)


class RoundsTextTest(TextCase):
    def test_written_and_read_again(self):
        values = [LOTTED, LOTTED[1:] + ((),), ((),), ((), (), ()), (((0, 1),),), (((0, 9999),), ((1, 2), (1, 3), (10, 11))), ((),) * 500]
        values += [rounds(web, 20) for web in (FULL, LOTS, TRIANGLES, BARE)] + [rounds(web, web.most + 1) for web in all_webs(4)]
        for value in values:
            text = write_rounds(value)
            lines = ["round " + (" ".join(f"{one}-{other}" for one, other in part) or "-") for part in value]
            self.assert_same(text, "\n".join(lines))
            self.assert_same(read_rounds(text), value)

    def test_bent_texts(self):
        for value in (((),), (((0, 1),),), LOTTED[1:] + ((),), (((0, 1), (0, 10), (2, 3)), ())):
            for text in bent(write_rounds(value)):
                self.assert_read("rounds", read_rounds, text)

    def test_lines_at_fault(self):
        lines = (
            "", "round", "round ", "round  -", "round - ", " round -", "round --", "round - -", "round - 0-1", "round 0-1 -", "round 0-1  2-3", "round 0-1-2",
            "round 0 1", "round 0- 1", "round 1-0", "round 1-1", "round 0-1 0-1", "round 2-3 0-1", "round 0-2 0-1", "Round 0-1", "rounds 0-1", "round 0-1,2-3", "tie 0 1", "round 0",
            "round -1", "round 1-", "round 0-1 2-3 ",
        )
        for line in lines:
            for ahead in range(3):
                for rest in ("", "\nround -", "\n"):
                    self.assert_keeps(ParseError, ahead, read_rounds, "round 0-1\n" * ahead + line + rest)
        for word in NO_NUMBERS:
            self.assert_keeps(ParseError, 1, read_rounds, f"round -\nround {word}-99")
            self.assert_keeps(ParseError, 1, read_rounds, f"round -\nround 0-{word}")
        # Rounds need not ascend, and can have a tie or a place again.
        self.assert_same(read_rounds("round 2-3\nround 0-1\nround 0-1 0-2"), (((2, 3),), ((0, 1),), ((0, 1), (0, 2))))

    def test_errors(self):
        wrong = [
            *but(any_values(), ((), ()), ((),)), (), (((1, 0),),), (((0, 0),),), (((0, 1), (0, 1)),), (((2, 3), (0, 1)),), (((0, 1),), None), [((0, 1),)], ([(0, 1)],), (([0, 1],),),
            (((0, True),),), (((False, 1),),), (((-1, 0),),), (((0, 1, 2),),), (((0,),),), (((0, None),),), ((0, 1),), (((0, "1"),),), {((0, 1),): 0}, (((0, (1,)),),),
        ]
        self.assert_order(write_rounds, (LOTTED, wrong, InvalidOperation))
        self.assert_no_strings(read_rounds)
        self.assert_same(write_rounds((((0, HUGE),),)), f"round 0-{HUGE}")


class LongTextTest(TextCase):
    def test_texts_of_any_length(self):
        chance = random.Random(182)
        row = tuple(chance.randrange(10000) for _ in range(20000))
        self.assert_same(read_row(write_row(row)), row)
        steps = tuple(zip(row[::2], row[1::2]))
        self.assert_same(read_chain(write_chain(steps)), steps)
        ties = tuple(sorted({tuple(sorted(step)) for step in steps if step[0] != step[1]}))
        self.assert_same(read_rounds(write_rounds((ties, (), ties))), (ties, (), ties))
        self.assert_keeps(ParseError, 10000, read_chain, write_chain(steps) + "\n")
        # A web's ties are read before the size and the places are looked at.
        for size in (10, 20):
            text = f"web {size}\n" + "\n".join(f"tie {one} {other}" for one, other in ties)
            self.assert_raises(InvalidWeb, read_web, text)
            self.assert_keeps(ParseError, len(ties) + 1, read_web, text + "\ntie 0 1")


if __name__ == "__main__":
    unittest.main()
