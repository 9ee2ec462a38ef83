"""Points 95 and 96: journals, and floors made of them again."""

import random
import unittest

from tests.drawn import PERSONS, drawn_down, drawn_matchers, drawn_setup, drawn_up, one_person, rule
from tests.support import WatchTest, done
from watchfloor.errors import BadLine, WatchError
from watchfloor.floor import Floor
from watchfloor.journal import journal, line_of, replay
from watchfloor.parsing import parse

MADE = one_person(
    people=[("ann", 2), ("bob", 3), ("cy", 0)], replicas=3, down=2, policies=[("page", (("all", 0), ("all", 5)))],
    groups=[("fast", 1, 0, (rule("down", "up == 0", 0, 0),)), ("slow", 2, 0, ())])
UP = (("job", "a"), ("metric", "up"))


def state(floor):
    """Return all that a floor tells of its state."""
    return [floor.time(), floor.view(), floor.firing(), floor.pager(), floor.deeds()]


class LineTest(WatchTest):

    def test_take(self):
        self.gives("take", line_of, ("take", ()))
        self.gives("take job=a,metric=up@7:12", line_of, ("take", ((UP, 7, 12),)))
        self.gives("take @0:0 job=a,metric=up@10000:-5 n_1=1_@3:-999999999999999", line_of,
                   ("take", (((), 0, 0), (UP, 10000, -5), ((("n_1", "1_"),), 3, 1 - 10 ** 15))))

    def test_tick(self):
        self.gives("tick 0 - -", line_of, ("tick", (), (0,), ()))
        self.gives("tick 0,2,4 slow,fast,slow ann=2,bob=10", line_of, ("tick", ("slow", "fast", "slow"), (0, 2, 4), (("ann", 2), ("bob", 10))))
        self.gives("tick 1 - bob=1", line_of, ("tick", (), (1,), (("bob", 1),)))
        self.gives("tick 1 fast -", line_of, ("tick", ("fast",), (1,), ()))
        self.gives("tick 1 - bob=1", line_of, ("tick", (), (1,), (("ann", 0), ("bob", 1))))
        self.gives("tick 1 - -", line_of, ("tick", (), (1,), (("ann", 0),)))

    def test_the_store(self):
        for word in ("sync", "seal", "compact", "crash"):
            self.gives(word, line_of, (word,))
        self.gives("retain 0", line_of, ("retain", 0))
        self.gives("retain 10000", line_of, ("retain", 10000))

    def test_silence(self):
        self.gives("silence 3 5", line_of, ("silence", (), 3, 5))
        self.gives("silence 3 5 job=a zone!=b|c|1_", line_of,
                   ("silence", (("job", ("a",), True), ("zone", ("b", "c", "1_"), False)), 3, 5))
        self.gives("silence 0 1 job= job!= job=|a|", line_of,
                   ("silence", (("job", ("",), True), ("job", ("",), False), ("job", ("", "a", ""), True)), 0, 1))

    def test_stand_in_and_acknowledge(self):
        self.gives("stand_in all 3 5 bob", line_of, ("stand_in", "all", 3, 5, "bob"))
        self.gives("acknowledge 12 ann", line_of, ("acknowledge", 12, "ann"))

    def test_lines_have_no_newline(self):
        for deed in (("take", ()), ("tick", (), (0,), ()), ("sync",), ("silence", (), 0, 1)):
            self.assertNotIn("\n", line_of(deed))


class JournalTest(WatchTest):

    def floor(self):
        """Return a floor to which each sort of deed was done, and its journal."""
        floor = Floor(MADE)
        floor.take([(UP, 0, 0), ((), 1, -3)])
        floor.tick(["slow", "slow"], [0, 2], [("bob", 1), ("cy", 0), ("ann", 1)])
        floor.sync()
        floor.stand_in("all", 2, 9, "bob")
        floor.acknowledge(0, "ann")
        floor.silence([("job", ("", "b"), False)], 1, 9)
        floor.silence((), 1000, 10000)
        floor.tick([], [1], [])
        floor.take([])
        floor.take([(UP, 40, 1)])
        floor.seal()
        floor.compact()
        floor.crash()
        floor.retain(1)
        floor.tick([], [0], [])
        return floor, [
            "take job=a,metric=up@0:0 @1:-3", "tick 0,2 slow,slow ann=1,bob=1", "sync", "stand_in all 2 9 bob", "acknowledge 0 ann",
            "silence 1 9 job!=|b", "silence 1000 10000", "tick 1 - -", "take", "take job=a,metric=up@40:1", "seal", "compact", "crash",
            "retain 1", "tick 0 - -",
        ]

    def test_each_sort_of_deed(self):
        floor, lines = self.floor()
        self.assertEqual(journal(floor), "".join(line + "\n" for line in lines))
        self.assertEqual(journal(Floor(MADE)), "")

    def test_replayed(self):
        floor, lines = self.floor()
        text = journal(floor)
        found = replay(MADE, text)
        self.assertIs(type(found), tuple)
        self.assertIs(type(found[0]), Floor)
        self.assertEqual(found[1], len(text))
        self.assertEqual(state(found[0]), state(floor))
        self.assertEqual(journal(found[0]), text)

    def test_cut_at_each_place(self):
        floor, lines = self.floor()
        text = journal(floor)
        for cut in range(len(text) + 1):
            found, end = replay(MADE, text[:cut])
            whole = text[:cut].count("\n")
            self.assertEqual(end, len("".join(line + "\n" for line in lines[:whole])))
            self.assertEqual(found.deeds(), floor.deeds()[:whole])
            self.assertEqual(journal(found), text[:end])

    def test_what_follows_the_last_newline(self):
        for text in ("", "sync", "nothing of this kind", "  "):
            found, end = replay(MADE, text)
            self.assertEqual((state(found), end), (state(Floor(MADE)), 0))
            found, end = replay(MADE, "sync\n" + text)
            self.assertEqual((found.deeds(), end), ([("sync",)], 5))

    def test_setup_is_not_changed(self):
        before = repr(vars(MADE))
        replay(MADE, "stand_in all 2 9 bob\ntick 0 - -\n")
        self.assertEqual(repr(vars(MADE)), before)


class RefusedTest(WatchTest):

    BEFORE = "take job=a,metric=up@0:0\ntick 0 - -\n"

    def refuses(self, *lines):
        for line in lines:
            for text in (self.BEFORE + line + "\n", self.BEFORE + line + "\nsync\nnothing\n"):
                self.refused(BadLine, {"line": 3}, replay, MADE, text)

    def takes(self, *lines):
        for line in lines:
            self.assertEqual(journal(replay(MADE, self.BEFORE + line + "\n")[0]), self.BEFORE + line + "\n")

    def test_number_of_the_line(self):
        self.refused(BadLine, {"line": 1}, replay, MADE, "\n")
        self.refused(BadLine, {"line": 1}, replay, MADE, "nothing\nsync\n")
        self.refused(BadLine, {"line": 2}, replay, MADE, "sync\n\nsync\n")
        self.refused(BadLine, {"line": 4}, replay, MADE, "sync\nsync\nsync\nsync \nsync  \n")

    def test_words(self):
        self.refuses("", " ", "Sync", "synced", "nothing", "stand-in all 3 5 bob", "test", "-", "take\t", "\tsync", "sync\r")

    def test_number_of_fields(self):
        self.refuses("tick", "tick 0", "tick 0 -", "tick 0 - - -", "sync 1", "sync -", "seal 0", "compact -", "crash 1", "retain",
                     "retain 1 2", "silence", "silence 3", "stand_in all 3 5", "stand_in all 3 5 bob bob", "acknowledge 0",
                     "acknowledge", "acknowledge 0 ann ann")
        self.takes("sync", "seal", "compact", "crash", "retain 1", "silence 3 5", "stand_in all 3 5 bob", "acknowledge 0 ann", "take")

    def test_blanks(self):
        self.refuses(" sync", "sync ", "take ", "take  @1:1", "take @1:1 ", "take @1:1  @2:1", "tick  0 - -", "tick 0 - - ", "tick 0  - -",
                     "retain  1", "retain 1 ", "silence 3 5 ", "silence 3 5  job=a", "silence  3 5", "stand_in  all 3 5 bob",
                     "acknowledge 0  ann", "tick 0, 1 - -", "take\t@1:1")

    def test_samples(self):
        self.refuses("take @1", "take 1:1", "take @1:", "take @:1", "take @1:1:1", "take @@1:1", "take a@1:1", "take a=@1:1", "take =a@1:1",
                     "take a=b,@1:1", "take ,a=b@1:1", "take a=b,c@1:1", "take a=b=c@1:1", "take b=b,a=a@1:1", "take a=a,a=b@1:1",
                     "take A=b@1:1", "take a=B@1:1", "take 1=b@1:1", "take @1:--1", "take @1:+1", "take @-1:1", "take @1:1_0",
                     "take @1:1000000000000000", "take @1:-1000000000000000", "take a=b@1:x", "take - @1:1", "take -")
        self.refuses("take a=1,b=1,c=1,d=1,e=1,f=1,g=1@1:1")
        self.takes("take a=1,b=1,c=1,d=1,e=1,f=1@1:1", "take @1:999999999999999 @1:999999999999999", "take @1:-999999999999999",
                   "take a=b@0:0 a=b@0:1", "take @10000:1")

    def test_leading_zeros_and_signs(self):
        self.refuses("take @01:1", "take @1:01", "take @1:-0", "take @1:-01", "take @00:1", "tick 00 - -", "tick 01 - -", "tick 0 - ann=01",
                     "retain 01", "retain 00", "silence 03 5", "silence 3 05", "stand_in all 03 5 bob", "stand_in all 3 05 bob",
                     "acknowledge 00 ann", "acknowledge -0 ann", "retain +1", "retain -1", "silence -1 5", "stand_in all -1 5 bob")

    def test_times(self):
        self.refuses("take @10001:1", "retain 10001", "silence 3 10001", "silence 10001 10002", "stand_in all 3 10001 bob",
                     "retain 99999999999999999999", "silence 3 99999999999999999999", "retain 1000000")
        self.takes("take @10000:1", "retain 10000", "silence 3 10000", "stand_in all 3 10000 bob")

    def test_ticks(self):
        self.refuses("tick - - -", "tick 3 - -", "tick 1,0 - -", "tick 0,0 - -", "tick 0, - -", "tick ,0 - -", "tick x - -", "tick -1 - -",
                     "tick 0,- - -", "tick 0 none -", "tick 0 fast,none -", "tick 0 fast, -", "tick 0 ,fast -", "tick 0 -,fast -",
                     "tick 0 - ann", "tick 0 - ann=", "tick 0 - =1", "tick 0 - ann=1=1", "tick 0 - ann=1,ann=1", "tick 0 - nobody=1",
                     "tick 0 - ann=3", "tick 0 - ann=-1", "tick 0 - ann=1,", "tick 0 - ann=x", "tick 0  -", "tick 0 - ")
        self.takes("tick 0 - -", "tick 0,1,2 fast -", "tick 2 slow,fast,fast ann=2,bob=1,cy=2")

    def test_counts_of_zero_and_the_order_of_the_setup(self):
        self.refuses("tick 0 - ann=0", "tick 0 - ann=0,bob=1", "tick 0 - bob=1,ann=1", "tick 0 - cy=1,bob=1", "tick 0 - ann=1,cy=1,bob=1")
        self.takes("tick 0 - ann=1,cy=1", "tick 0 - bob=1,cy=2")

    def test_silences(self):
        self.refuses("silence 5 5", "silence 5 4", "silence 3 5 job", "silence 3 5 =a", "silence 3 5 !=a", "silence 3 5 job!a",
                     "silence 3 5 job!!=a", "silence 3 5 job==a", "silence 3 5 job=a=b", "silence 3 5 Job=a", "silence 3 5 job=A",
                     "silence 3 5 job=a|b|c|d|e|f|g", "silence 3 5 1job=a", "silence 3 5 job=a,b", "silence 3 5 -", "silence 3 - job=a")
        self.takes("silence 3 5 job=a|b|c|d|e|f job= zone!=|", "silence 3 5 job=a job=a")

    def test_what_the_floor_refuses_at_that_moment(self):
        self.refuses("stand_in none 3 5 bob", "stand_in all 5 5 bob", "stand_in all 3 5 nobody", "stand_in all 3 5 cy",
                     "acknowledge 0 bob", "acknowledge 1 ann", "acknowledge 0 nobody", "acknowledge x ann", "acknowledge - ann")
        self.refused(BadLine, {"line": 1}, replay, MADE, "acknowledge 0 ann\n" + self.BEFORE)
        self.refused(BadLine, {"line": 10001}, replay, MADE, "tick 0 - -\n" * 10001)
        self.assertEqual(replay(MADE, "tick 0 - -\n" * 10000)[0].time(), 10000)

    def test_journal_of_another_setup(self):
        self.refused(BadLine, {"line": 2}, replay, one_person(), "tick 0 - -\ntick 1 - -\n")


class DrawnTest(WatchTest):

    GROUPS = [("fast", 1, 0, (rule("high", "up > 1", 1, 2), ("record", "top", parse("max by (job) (up)"), ()))),
              ("slow", 3, 1, (rule("top", "top > 1", 0, 4),))]

    def test_floors_that_were_replayed(self):
        """A floor that was replayed from its journal is in the same state, and answers further deeds alike."""
        chance = random.Random(95)
        seen = {}
        for _ in range(80):
            made = drawn_setup(chance, groups=self.GROUPS, down=chance.choice((0, 0, 1)))
            floor = Floor(made)
            for _ in range(30):
                self.do(floor, self.deed(chance, made, floor), seen)
            text = journal(floor)
            other, end = replay(made, text)
            self.assertEqual(end, len(text))
            self.assertEqual(state(other), state(floor))
            for _ in range(20):
                deed = self.deed(chance, made, floor)
                self.assertEqual(self.do(floor, deed, seen), self.do(other, deed, seen))
                self.assertEqual(state(other), state(floor))
            cut = chance.randrange(len(text) + 1)
            other, end = replay(made, text[:cut])
            self.assertEqual(other.deeds(), floor.deeds()[:text[:cut].count("\n")])
        self.assertEqual(len(seen), 10)
        self.assertGreater(min(seen.values()), 20, seen)

    def deed(self, chance, made, floor):
        """Return a deed, perhaps one that a floor refuses."""
        now = floor.time()
        word = chance.choice(("take", "take", "tick", "tick", "tick", "sync", "seal", "compact", "retain", "crash", "silence",
                              "stand_in", "acknowledge", "acknowledge", "acknowledge"))
        if word == "take":
            samples = [((("job", chance.choice("ab")), ("metric", "up")), max(0, now + chance.choice((-2, -1, 0, 0, 0))), chance.choice((-1, 0, 2, 3)))
                       for _ in range(chance.randint(0, 3))]
            return word, samples
        if word == "tick":
            return word, [name for name in ("slow", "fast") if chance.random() < 0.1], drawn_up(chance, made), drawn_down(chance, made)
        if word == "retain":
            return word, max(0, now - chance.randint(0, 9))
        if word == "silence":
            return word, drawn_matchers(chance, chance.randint(0, 2)), now, now + chance.randint(0, 4)
        if word == "stand_in":
            return word, chance.choice(("first", "second")), now, now + chance.randint(0, 5), chance.choice(PERSONS)
        if word == "acknowledge":
            plans = [plan[0] for plan in floor.pager()[3]]
            return word, chance.choice(plans + [0, 1]), chance.choice(PERSONS)
        return (word,)

    def do(self, floor, deed, seen):
        """Do a deed and return what the floor returns, or the kind of the error."""
        try:
            found = done(floor, deed)
        except WatchError as error:
            return type(error)
        seen[deed[0]] = seen.get(deed[0], 0) + 1
        return found


if __name__ == "__main__":
    unittest.main()
