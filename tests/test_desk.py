"""A desk that answers rows with texts."""

import random
import unittest

from code_samples import register_by_hand
from house_samples import MODES, all_right_deeds
from live_samples import ask
from plan_samples import order_by_hand
from samples import FAR, OTHERS, some_calendars
from text_samples import calendar_place, calendar_text, deed_place, deed_text, plan_text, route_place, route_text

from officepapers.desk import Desk
from officepapers.errors import (
    BadCommand,
    BadDay,
    BadDeed,
    BadFolder,
    BadHouse,
    BadPath,
    BadPerson,
    BadSource,
    BadText,
    Full,
    NoName,
    NothingToUndo,
    TooMany,
)
from officepapers.live import Live
from officepapers.reasons import reason_for
from officepapers.sight import can_see

FIRST = ((2, (0,), (False, False), (), ()), ("bar", "keeps", "now", True), ())
# What the desk tells of all that it holds.
QUESTIONS = ["day", "plan", "who 0", "who 1", "list 0 0", "list 1 0", "list 0 1", "why 0 0", "order 0", "find 0000"]


def asked(*rows):
    """A desk that was asked for these rows, and its answers."""
    desk = Desk()
    return desk, [desk.say(row) for row in rows]


class AtDesk(unittest.TestCase):
    def assert_error(self, error, desk, row):
        with self.assertRaises(error, msg=repr(row)) as caught:
            desk.say(row)
        self.assertIs(type(caught.exception), error, row)
        return caught.exception

    def answers(self, *rows):
        return asked(*rows)[1]


def answer_or_error(desk, row):
    try:
        return desk.say(row)
    except ValueError as error:
        return type(error), str(error)


class AtFirst(AtDesk):
    def test_the_desk_at_first(self):
        self.assertEqual(self.answers(*QUESTIONS), [
            "0", "none", "nobody", "nobody", "f0", "f1", "f0", "nothing", "none", "none",
        ])
        desk = Desk()
        for row in ["do login 1", "do shut 1", "do over 0 1", "do throw 0 3", "do allow 0 g2"]:
            self.assertEqual(desk.say(row), "ok")
        self.assert_error(BadFolder, desk, "who 2")
        self.assert_error(BadPerson, desk, "why 2 0")
        self.assertEqual(self.answers("wait + +", "wait .", "wait +"), ["2", "2", "3"])
        self.assertEqual(self.assert_error(NoName, desk, "wait + a").name, "a")
        # Its mode: also groups of groups count, an open bar bars, groups are known at once, moving keeps entries.
        rows = ["do join 0 p1", "do join 1 g0", "do allow 0 g1", "who 1", "do bar 1 p1", "do move 1 0", "who 1", "who 0"]
        self.assertEqual(self.answers(*rows)[3:], ["1", "ok", "ok", "nobody", "1"])
        self.assertEqual(Desk().say(row="day"), "0")


class Setting(AtDesk):
    def test_what_begins_anew_and_on_which_day(self):
        for row in ["calendar a oo-", "house 2 0", "house 1", "mode bar keeps now deep", "mode near drops login flat"]:
            desk, _ = asked("wait + + +", "do write 0 0", "do allow 0 p0")
            self.assertEqual(desk.say(row), "ok")
            self.assertEqual([desk.say(one) for one in ["day", "plan", "list 0 0", "who 0"]], ["3", "none", "f0", "nobody"])
            self.assert_error(NothingToUndo, desk, "undo")
            self.assertEqual(desk.say("wait +"), "4")
            self.assertEqual(desk.say("again 0"), "1")

    def test_start(self):
        for day in (0, -1, 17, FAR, -FAR):
            desk, _ = asked("calendar a oo-", "wait + a", "do write 0 0")
            self.assertEqual(desk.say("start %d" % day), "ok")
            self.assertEqual([desk.say("day"), desk.say("plan")], [str(day), "none"])
            self.assertEqual(desk.say("wait ."), str(day))
            # The office is the same.
            desk.say("wait a")

    def test_the_present_day_beyond_the_range_of_days(self):
        desk, _ = asked("start %d" % FAR, "wait + + +", "mode near keeps now deep", "do allow 0 p1", "wait +")
        self.assertEqual(desk.say("day"), str(FAR + 4))
        self.assertEqual(desk.say("house 3 0 0"), "ok")
        self.assertEqual(desk.say("day"), str(FAR + 4))
        rows = ["do write 1 0", "do allow 1 p2", "can 2 0 w0", "can 2 0 f1", "can 1 0 w0", "look 2 1 0", "order 5", "again 5"]
        self.assertEqual([desk.say(row) for row in rows], ["ok", "ok", "yes", "no", "no", "w0", "0 1 2", "5"])
        self.assertEqual(asked("start %d" % -FAR, "calendar a oo-", "wait a", "again 0")[1][2:], [str(-FAR + 1), "0"])

    def test_calendars(self):
        chance = random.Random(371)
        for calendar in some_calendars(30, 372):
            text = calendar_text(calendar)
            live = Live((FIRST[0], FIRST[1], (("k", calendar),)), 0)
            start = chance.randint(-40, 40)
            desk, told = asked("calendar k " + text, "start %d" % start, "wait + k", "wait k + k")
            live = live.with_start(start)
            self.assertEqual(told[2:], [str(live.wait("+", "k")), str(live.wait("k", "+", "k"))])

    def test_a_calendar_in_the_place_of_another_one(self):
        desk, told = asked("calendar b o---", "calendar a o-", "wait +", "calendar b -o", "start 2", "wait b", "wait a")
        self.assertEqual(told[-2:], ["3", "4"])
        for name in "cd":
            desk.say("calendar %s o" % name)
        for name in "dcba":
            self.assertEqual(desk.say("calendar %s oo-" % name), "ok")
        self.assertEqual(desk.say("wait a b c d"), "4")

    def test_houses(self):
        desk = Desk()
        for people in range(1, 5):
            for parents in [(), (0,), (0, 1), (2, 0), (0, 0, 0), (2, 3, 0), (0, 1, 2, 3, 4)]:
                row = " ".join(map(str, ("house", people, *parents)))
                self.assertEqual(desk.say(row), "ok")
                live = Live(((people, parents, (False,) * (len(parents) + 1), (), ()), FIRST[1], ()), 0)
                for deed in random.Random(people).sample(all_right_deeds(people, len(parents) + 1), 8):
                    self.assertEqual(desk.say("do " + deed_text(deed)), "ok")
                    live.do(deed)
                for folder in range(len(parents) + 1):
                    sees = [str(person) for person in range(people) if (person, folder) in live]
                    self.assertEqual(desk.say("who %d" % folder), " ".join(sees) or "nobody")
                self.assert_error(BadFolder, desk, "who %d" % (len(parents) + 1))
                self.assert_error(BadPerson, desk, "why %d 0" % people)

    def test_modes(self):
        deeds = ["allow 0 g1", "bar 1 p0", "allow 1 p0", "join 0 p0", "join 1 g0", "login 1", "join 1 p1", "bar 0 p0"]
        deeds += ["move 1 2", "clear 0 p0"]
        seen = set()
        for mode in MODES:
            desk, _ = asked("house 2 0 0", "mode %s %s %s %s" % (*mode[:3], "deep" if mode[3] else "flat"))
            live = Live(((2, (0, 0), (False,) * 3, (), ()), mode, ()), 0)
            told = []
            for text in deeds:
                desk.say("do " + text)
                words = text.split(" ")
                parts = [int(word) if word.isdigit() else (word[0], int(word[1])) for word in words[1:]]
                live.do((words[0], *parts))
                for folder in range(3):
                    sees = [str(person) for person in range(2) if (person, folder) in live]
                    told.append(desk.say("who %d" % folder))
                    self.assertEqual(told[-1], " ".join(sees) or "nobody")
                    self.assertEqual(
                        [desk.say("why %d %d" % (person, folder)) for person in range(2)],
                        [reason_for(live.office[0], mode, live.state(), person, folder)[0] for person in range(2)],
                    )
            seen.add(tuple(told))
        self.assertGreater(len(seen), 8)

    def test_the_others_stay_as_they_are(self):
        # A house keeps the mode and the book, a mode the house and the book, a calendar the house and the mode.
        rows = ["calendar a o-", "mode near keeps login flat", "house 3 0 0", "calendar b o", "start 1", "wait a", "wait b"]
        rows += ["do allow 0 g0", "do join 0 p2", "who 0", "do login 2", "who 0", "why 2 2"]
        self.assertEqual(self.answers(*rows)[5:], ["2", "2", "ok", "ok", "nobody", "ok", "2", "sees"])
        desk, _ = asked("house 3 0 0", "mode bar keeps now deep", "do allow 2 p2", "mode near keeps now deep")
        self.assertEqual([desk.say(row) for row in ["do allow 2 p2", "who 2"]], ["ok", "2"])


class Answers(AtDesk):
    def test_looks_and_lists(self):
        _, told = asked(
            "do allow 0 p1",
            "look 1 0 0",
            "look 0 0 0",
            "do over 1 0",
            "look 1 0 0",
            "do write 1 0",
            "do under 1 0",
            "look 1 0 0",
            "list 0 0",
            "list 1 0",
            "list 1 3",
            "do throw 0 0",
            "look 1 0 0",
            "list 0 0",
        )
        wanted = ["ok", "f0", "barred", "ok", "f1 f0", "ok", "ok", "f1 f0 w5", "f1 f0 w5", "w5", "f1", "ok", "empty", "empty"]
        self.assertEqual(told, wanted)

    def test_a_list_is_not_noted_and_a_look_is(self):
        desk, _ = asked("look 0 0 0", *["list 0 0"] * 50, "look 1 1 3")
        self.assertEqual(desk.say("plan"), "look 0 0 0 : . ; look 1 1 3 : .")

    def test_undo(self):
        desk, told = asked("wait +", "do write 0 0", "look 0 0 0", "undo", "undo", "list 0 0", "undo", "day")
        self.assertEqual(told[3:], ["ok", "ok", "f0", "ok", "0"])
        self.assert_error(NothingToUndo, desk, "undo")

    def test_who_and_why(self):
        rows = ["house 4 0", "do allow 0 p3", "do allow 0 p0", "who 0", "who 1", "do bar 1 p3", "who 1", "why 3 1", "why 3 0"]
        rows += ["why 1 0"]
        self.assertEqual(self.answers(*rows)[3:], ["0 3", "0 3", "ok", "0", "barred", "sees", "nothing"])

    def test_can(self):
        desk, _ = asked("calendar a oo-", "start 1", "do allow 0 p1", "wait + a", "do write 1 0", "do over 1 0", "do bar 0 p1")
        for row, wanted in [
            ("can 1 0 f0", "yes"),
            ("can 1 0 f1", "yes"),
            ("can 1 0 w1", "yes"),
            ("can 0 0 f0", "no"),
            ("can 1 3 f1", "yes"),
        ]:
            self.assertEqual(desk.say(row), wanted, row)
        for row in ["can 1 0 w0", "can 1 0 w2", "can 1 1 w1", "can 1 0 f2", "can 1 0 w9", "can 1 0 f" + "9" * 30]:
            self.assert_error(BadSource, desk, row)

    def test_order(self):
        desk, _ = asked("calendar a oo-", "wait +", "do write 0 0", "wait a", "do shut 0", "look 0 0 0")
        for day in (0, 1, 2, 1000, -FAR, FAR):
            self.assertEqual(desk.say("order %d" % day), "0 1 2")
        self.assertEqual(asked("order -5")[1], ["none"])

    def test_find(self):
        rows = ["do write 0 0", "do write 1 2", "do over 1 0", "find 0000", "find 5000", "find 0116", "find 1016", "find 0555"]
        self.assertEqual(self.answers(*rows)[3:], ["none", "none", "w1 0 ; w1 1", "w1 0 ; w1 1", "none"])
        self.assertEqual(asked("do write 0 0", "find 0000", "find 0007", "find 0070")[1][1:], ["w0 0"] * 3)

    def test_find_by_all_labels(self):
        desk, _ = asked("house 1 0 0 0 0 0", *["do write %d %d" % (at % 6, at // 6) for at in range(8)])
        for at, code in enumerate(register_by_hand((10, 11, (4, 3, 2, 1), 0), 8)):
            for other in (code, ((code[0] + 1) % 10, *code[1:]), (*code[:3], (code[3] + 1) % 10)):
                self.assertEqual(desk.say("find " + "".join(map(str, other))), "w%d %d" % (at, at % 6))

    def test_plan(self):
        desk, _ = asked("calendar a oo-", "wait a a", "do over 1 0", "wait + a", "look 1 0 3", "wait +")
        self.assertEqual(desk.say("plan"), "over 1 0 : a ; look 1 0 3 : a + a")

    def test_again(self):
        desk, told = asked("calendar a oo-", "wait a +", "do write 0 0", "wait a", "again 1", "day", "again -1", "undo", "day")
        self.assertEqual(told[1:], ["1", "ok", "1", "3", "3", "1", "ok", "1"])
        self.assertEqual(asked("again 55", "day")[1], ["55", "55"])
        self.assertEqual(desk.say("plan"), "write 0 0 : a +")

    def test_against_a_live_office(self):
        chance = random.Random(373)
        deeds = all_right_deeds(2, 2)
        papers = [("over", 0, 1), ("under", 1, 0), ("write", 0, 0), ("write", 1, 0), ("throw", 0, 0), ("over", 1, 0)]
        for _ in range(60):
            desk, live = Desk(), Live((FIRST[0], FIRST[1], (("a", ("oo-", (), ())),)), 0)
            desk.say("calendar a oo-")
            for _ in range(chance.randint(0, 8)):
                kind = chance.choice(["wait", "do", "do", "do", "look"])
                thing = {
                    "wait": tuple(chance.choice("a+") for _ in range(chance.randint(0, 3))),
                    "do": chance.choice(chance.choice([deeds, papers])),
                    "look": ("look", chance.randrange(2), chance.randrange(2), chance.randrange(2)),
                }[kind]
                text = {"wait": "wait " + route_text(thing) if kind == "wait" else "", "do": "do " + deed_text(thing)}
                told = desk.say(text.get(kind, deed_text(thing)))
                answer = ask(live, kind, thing)
                if kind == "look":
                    self.assertEqual(told, "barred" if answer is None else sources_text(answer))
                else:
                    self.assertEqual(told, "ok" if kind == "do" else str(answer))
            self.assertEqual(desk.say("day"), str(live.day))
            for folder in (0, 1):
                self.assertEqual(desk.say("list %d 0" % folder), sources_text(live.lists(0)[folder]))
            found = " ; ".join("w%d %d" % pair for pair in live.find((10, 11, (4, 3, 2, 1), 0), (0, 0, 0, 0)))
            self.assertEqual(desk.say("find 0000"), found or "none")
            plan = live.plan() if fits(live) else None
            if plan is None:
                for row in ["plan", "order 0", "can 0 0 f0"]:
                    self.assert_error(TooMany, desk, row)
                continue
            self.assertEqual(desk.say("plan"), plan_text(plan))
            self.assertEqual(desk.say("order 7"), " ".join(map(str, order_by_hand(live.office, plan, 7))) or "none")
            for person in (0, 1):
                for folder in (0, 1):
                    seen = can_see(live.office, plan, 0, person, 0, ("first", folder))
                    self.assertEqual(desk.say("can %d 0 f%d" % (person, folder)), "yes" if seen else "no")


def sources_text(sources):
    return " ".join({"first": "f", "written": "w"}[word] + str(number) for word, number in sources) or "empty"


def fits(live):
    try:
        live.plan()
    except TooMany:
        return False
    return True


BAD_ROWS = """
days
Day
day.
again
again 1 2
again +1
again 01
again -0
again --1
again 1-
again 1.0
again a
calendar
calendar a
calendar A o
calendar ab o
calendar + o
calendar 1 o
can
can 1 0
can 1 0 f
can 1 0 w
can 1 0 0
can 1 0 x0
can 1 0 f-1
can 1 0 f+1
can 1 0 f01
can 1 0 w-0
can 1 0 first
can 1 0 f0 f0
can 10 0 f0
can -1 0 f0
can a 0 f0
do
find
house
house 10
house -1
house a
house 2 10
house 2 0 a
house 2 0 -1
house +2
house f2
house 2 w0
house 02
list 0
list 0 0 0
list 00 0
look 0 0
look 0 0 0 0
look 0 0 -1
look 0 0 10
look p0 0 0
mode
mode bar keeps now
mode bar keeps now deep deep
mode bar keeps now True
mode Bar keeps now deep
mode keeps bar now deep
mode near keep now deep
mode far keeps now deep
mode bar keeps never deep
mode bar keeps now
order
order none
order 1 2
plan 0
say
start
start 0 0
start 1e3
start -
start f1
undo 1
wait
who
who 10
who 0 0
who p
who f0
who w1
why 0
why f0 0
why 0 0 0
why 0 00
lists 0 0
help
""".split("\n")[1:-1]


class BadRows(AtDesk):
    def test_rows_that_are_of_no_form(self):
        desk, _ = asked("wait +", "do allow 0 p0")
        kept = [desk.say(row) for row in QUESTIONS]
        for row in BAD_ROWS:
            self.assert_error(BadCommand, desk, row)
        self.assertEqual([desk.say(row) for row in QUESTIONS], kept)

    def test_blanks_and_line_feeds(self):
        desk = Desk()
        rows = ["day", "undo", "plan", "start 5", "again 5", "who 0", "why 0 0", "look 0 0 0", "list 0 0", "order 5"]
        rows += ["can 0 0 f0", "house 2 0", "house 2", "mode bar keeps now deep"]
        for row in rows:
            for wrong in [row + " ", " " + row, row + "\n", "\n" + row, row.replace(" ", "  ", 1) + " " * (" " not in row)]:
                self.assert_error(BadCommand, desk, wrong)
            self.assert_error(BadCommand, desk, row + " 0 0 0 0 0 x")
        for row in ["", " ", "\n", "  ", "wait\n+", "do\n", "calendar  a o", "calendar\na o"]:
            self.assert_error(BadCommand, desk, row)

    def test_objects_that_are_no_text(self):
        desk = Desk()
        for thing in [thing for thing in OTHERS if not isinstance(thing, str)] + [5, ("day",), ["day"], b"day", 0]:
            self.assert_error(BadCommand, desk, thing)

    def test_thirty_digits_and_more(self):
        desk = Desk()
        for word in ["start", "again", "order"]:
            for sign in ("", "-"):
                for many in (16, 17, 30):
                    self.assert_error(BadDay, desk, word + " " + sign + "9" * many)
                for many in (31, 60, 9000):
                    self.assert_error(BadCommand, desk, word + " " + sign + "9" * many)
                self.assert_error(BadDay, desk, "%s %s%d" % (word, sign, FAR + 1))
                desk.say("%s %s%d" % (word, sign, FAR))
        for letter in "fw":
            self.assert_error(BadSource, desk, "can 0 0 " + letter + "9" * 30)
            self.assert_error(BadCommand, desk, "can 0 0 " + letter + "9" * 31)

    def test_texts_that_are_not_as_they_have_to_be(self):
        desk, _ = asked("house 2 0", "wait +")
        kept = [desk.say(row) for row in QUESTIONS]
        for text in ["", " ", "oo- ", "o closed", "o closed 1", "o closed 2 1", "o opened 1 2 closed 1 2", "x", "o\n", "o  "]:
            place = calendar_place(text)
            self.assertEqual(self.assert_error(BadText, desk, "calendar a " + text).place, place)
        for text in ["", " ", "a ", "+ + + + + + + + +", ". .", "a  b", "aa", "\n", "+ + .", "+\n"]:
            self.assertEqual(self.assert_error(BadText, desk, "wait " + text).place, route_place(text))
        for text in ["", " ", "shut", "shut 2", "shut 0 ", "over 0 0", "look 2 0 0", "login 2", "allow 0 0", "shut\n0", "x"]:
            self.assertEqual(self.assert_error(BadText, desk, "do " + text).place, deed_place(2, 2, text))
        for text, place in [("", 0), ("0", 1), ("000", 3), ("00000", 4), ("0x00", 1), (" 0000", 0), ("0000 ", 4), ("00\n0", 2)]:
            self.assertEqual(self.assert_error(BadText, desk, "find " + text).place, place)
        self.assertEqual([desk.say(row) for row in QUESTIONS], kept)

    def test_deeds_are_read_for_the_office(self):
        desk = Desk()
        self.assertEqual(self.assert_error(BadText, desk, "do shut 2").place, 1)
        desk.say("house 1 0 0")
        self.assertEqual(desk.say("do shut 2"), "ok")
        self.assertEqual(self.assert_error(BadText, desk, "do login 1").place, 1)
        desk.say("house 1")
        self.assertEqual(self.assert_error(BadText, desk, "do over 0 1").place, 0)


class Errors(AtDesk):
    def assert_unchanged(self, error, desk, row):
        kept = [answer_or_error(desk, one) for one in QUESTIONS]
        self.assert_error(error, desk, row)
        self.assertEqual([answer_or_error(desk, one) for one in QUESTIONS], kept)

    def test_each_alone(self):
        desk, _ = asked("calendar a oo-", "do allow 0 p0", "do write 0 0")
        for name in "bcd":
            desk.say("calendar %s o" % name)
        desk.say("wait +")
        for row, error in [
            ("calendar e o", TooMany),
            ("house 0", BadHouse),
            ("house 5 0", BadHouse),
            ("house 9", BadHouse),
            ("house 2 1", BadHouse),
            ("house 2 2", BadHouse),
            ("house 2 0 3", BadHouse),
            ("house 2 2 1", BadHouse),
            ("house 2 0 0 0 0 0 0", BadHouse),
            ("house 2" + " 0" * 4000, BadHouse),
            ("start 1000000000000001", BadDay),
            ("again -1000000000000001", BadDay),
            ("order 1000000000000001", BadDay),
            ("wait + z", NoName),
            ("do look 0 0 0", BadDeed),
            ("look 2 0 0", BadPerson),
            ("why 2 0", BadPerson),
            ("can 2 0 f0", BadPerson),
            ("look 0 2 0", BadFolder),
            ("list 2 0", BadFolder),
            ("who 2", BadFolder),
            ("why 0 2", BadFolder),
            ("look 0 0 4", BadPath),
            ("list 0 4", BadPath),
            ("can 0 4 f0", BadPath),
            ("can 0 0 f2", BadSource),
            ("can 0 0 w0", BadSource),
        ]:
            self.assert_unchanged(error, desk, row)
        desk.say("undo")
        self.assert_unchanged(NothingToUndo, desk, "undo")

    def test_several_at_once(self):
        desk = Desk()
        for name in "abcd":
            desk.say("calendar %s o" % name)
        for row, error in [
            ("calendar e x", BadText),
            ("wait z ab", BadText),
            ("wait z + + + + + + + +", BadText),
            ("look 9 9 9", BadPerson),
            ("look 0 9 9", BadFolder),
            ("list 9 9", BadFolder),
            ("why 9 9", BadPerson),
            ("can 9 9 f9", BadPerson),
            ("can 0 9 f9", BadPath),
            ("can 0 0 f9", BadSource),
        ]:
            self.assert_unchanged(error, desk, row)

    def test_full(self):
        desk, _ = asked("do allow 0 p0", *["wait ."] * 39)
        for row, error in [
            ("wait", BadCommand),
            ("wait x y z1", BadText),
            ("wait z", NoName),
            ("do look 0 0 0", BadDeed),
            ("do shut", BadText),
            ("look 9 0 0", BadPerson),
            ("look 0 9 0", BadFolder),
            ("look 0 0 9", BadPath),
            ("wait .", Full),
            ("wait +", Full),
            ("do shut 0", Full),
            ("look 0 0 0", Full),
        ]:
            self.assert_unchanged(error, desk, row)
        self.assertEqual([desk.say(row) for row in ["list 0 0", "plan", "undo", "wait +"]], ["f0", "allow 0 p0 : .", "ok", "1"])

    def test_plans_that_are_too_long(self):
        for rows in [["do shut 0"] * 9, ["wait + + + + +", "wait + + + +", "do shut 0"]]:
            desk, _ = asked(*rows)
            for row, error in [
                ("plan", TooMany),
                ("order 0", TooMany),
                ("order 1000000000000001", BadDay),
                ("can 0 0 f0", TooMany),
                ("can 9 0 f0", TooMany),
                ("can 0 9 f0", TooMany),
                ("can 0 0 f9", TooMany),
                ("can 0 0 x9", BadCommand),
            ]:
                self.assert_unchanged(error, desk, row)
            desk.say("undo")
            desk.say("plan")

    def test_too_many_writes_to_find(self):
        desk, _ = asked(*["do write 0 0"] * 8)
        self.assertEqual(desk.say("find 0000"), "none")
        desk.say("do write 1 1")
        self.assert_unchanged(TooMany, desk, "find 0000")
        self.assert_unchanged(BadText, desk, "find 000")
        desk.say("undo")
        self.assertEqual(desk.say("find 0000"), "none")

    def test_two_desks_and_equal_rows(self):
        rows = ["calendar a oo-", "wait + a", "do allow 0 p1", "do write 0 0", "look 1 0 0", "find 0000", "plan", "again 3"]
        first, second = asked(*rows), asked(*rows)
        self.assertEqual(first[1], second[1])
        first[0].say("undo")
        self.assertEqual(second[0].say("plan").count(";"), 2)
        self.assertEqual(first[0].say("plan").count(";"), 1)


if __name__ == "__main__":
    unittest.main()
