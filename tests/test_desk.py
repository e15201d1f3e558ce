"""[1] to [3], [96]: desks, on [95]."""

import unittest

from helpers import VALUES, raised
from lightsout.desk import Desk
from lightsout.least import least_guests
from lightsout.live import Live
from lightsout.stage import Stage

TEXT = "part hall ; door gate out hall open ; kind reader ; go gate ; plan ; off hall"
RICH = ("part p ; part q ; door d out p open ; door e p q shut ; cell c p ; cell m q kept ; kind a ; go d ; see c ; go d ; kind b ; "
        "rest ; rest ; plan ; drain p ; off p ; on p")


def desk_with(text=TEXT):
    desk = Desk()
    desk.say("world " + text)
    return desk


def state(desk):
    return None if desk.live is None else (str(desk.live), desk.live.harms, len(desk.live))


class Says(unittest.TestCase):
    def test_example(self):
        desk = Desk()
        self.assertIsNone(desk.live)
        told = [desk.say(word) for word in ("world " + TEXT, "put 0 drain hall", "put 0 shut gate", "least dark hall", "undo",
                                            "story dark hall")]
        self.assertEqual(["dark hall ; inside hall", "=", "-dark hall ; -inside hall", "never", "undone",
                          "come reader ; hand ; hand ; step 0"], told)
        with self.assertRaises(TypeError):
            iter(desk)

    def test_world_harms_and_text(self):
        desk = Desk()
        self.assertEqual("-", desk.say(command="world part p ; plan"))
        self.assertIsInstance(desk.live, Live)
        self.assertEqual("-", desk.say("harms"))
        self.assertEqual("part p ; plan", desk.say("text"))
        self.assertEqual("dark hall ; inside hall", desk.say("world " + TEXT))
        self.assertEqual(("dark hall ; inside hall", TEXT), (desk.say("harms"), desk.say("text")))
        self.assertEqual(0, len(desk.live))

    def test_deeds(self):
        desk = desk_with()
        self.assertEqual("-dark hall ; -inside hall", desk.say("take 0"))
        self.assertEqual("+dark hall ; +inside hall", desk.say("put 0 off hall"))
        self.assertEqual("=", desk.say("put 1 on hall"))
        self.assertEqual("-dark hall ; -inside hall", desk.say("turn gate"))
        self.assertEqual("+dark hall", desk.say("put 1 open gate"))
        self.assertEqual("-dark hall", desk.say("write reader 0 rest"))
        self.assertEqual("part hall ; door gate out hall shut ; kind reader ; rest ; plan ; off hall ; open gate ; on hall",
                         desk.say("text"))
        self.assertEqual(["undone"] * 6 + ["nothing"], [desk.say("undo") for _ in range(7)])
        self.assertEqual(TEXT, desk.say("text"))

    def test_new_ones_ahead_of_gone_ones(self):
        desk = desk_with("part p ; part q ; door d out p open ; door e out q open ; kind k ; go d ; plan ; off p ; off q")
        self.assertEqual("dark p ; inside p", desk.say("harms"))
        self.assertEqual("+dark q ; +inside q ; -dark p ; -inside p", desk.say("write k 0 go e"))

    def test_keep_and_numbers(self):
        desk = desk_with(RICH)
        desk.say("keep c")
        self.assertIn("cell c p kept", desk.say("text"))
        desk.say("keep m")
        self.assertIn("cell m q ;", desk.say("text"))
        desk.say("write a 1 set c 1")
        self.assertIn("kind a ; go d ; set c 1 ; go d ; kind b", desk.say("text"))
        desk.say("write a 1 when 0 3")
        self.assertEqual(("when", 0, 3), desk.live.world.kinds[0].rows[1])
        desk.say("write b 0 again 2")
        self.assertEqual(("again", 2), desk.live.world.kinds[1].rows[0])
        self.assertEqual(5, len(desk.live))

    def test_least_and_story(self):
        text = RICH.replace("see c ; go d", "set c 1 ; tell c ; go d").replace("rest ; rest", "go d ; see c")
        desk = desk_with(text)
        world = desk.live.world
        self.assertEqual("1 1", desk.say("least lost c"))
        story = tuple(desk.say("story lost c").split(" ; "))
        self.assertEqual(("lost", "c"), Stage(world).play(story)[1][1])
        self.assertEqual(least_guests(world, ("lost", "c"))[1], story)
        self.assertEqual(("never", "never"), (desk.say("least stale m"), desk.say("story stale m")))
        self.assertEqual("0 1", desk_with(text.replace("drain p ; ", "")).say("least inside p"))


class Errors(unittest.TestCase):
    WRONG = ["", " ", "harms ", " harms", "harms  ", "harm", "harms now", "text all", "undo 1", "world", "world ", "world  part p ; plan",
             "world part p ;  ; plan", "world part p ; plan ", "put", "put 0", "put 0 off", "put 0 off hall now", "put 00 off hall",
             "put 01 off hall", "put 100 off hall", "put -1 off hall", "put a off hall", "put 1.0 off hall", "put +1 off hall", "take",
             "take 00", "take 001", "take 0 0", "take x", "turn", "turn gate gate", "keep", "keep c c", "write", "write reader",
             "write reader 0", "write reader 00 rest", "write reader x rest", "write reader 0  rest", "least", "least dark",
             "least dark hall 1", "story dark", "story", "PUT 0 off hall", "put\t0 off hall", "take \u0661", "take 1\n", "\n", "harms\n",
             "world part p\nplan", "Harms", "none"]

    def test_forms(self):
        for desk in (Desk(), desk_with()):
            ahead = state(desk)
            for command in [*VALUES, *self.WRONG]:
                self.assertEqual(("InvalidCommand",), raised(desk.say, command), command)
                self.assertEqual(ahead, state(desk))

    def test_no_world_yet(self):
        desk = Desk()
        for command in ("harms", "put 0 off hall", "take 0", "turn gate", "keep c", "write reader 0 rest", "least dark hall",
                        "story dark hall", "text", "undo"):
            self.assertEqual(("InvalidCommand",), raised(desk.say, command), command)
        self.assertIsNone(desk.live)

    def test_numbers_of_two_digits(self):
        desk = desk_with()
        self.assertEqual(("Refused", 1), raised(desk.say, "put 10 off hall"))
        self.assertEqual(("Refused", 1), raised(desk.say, "put 99 off hall"))
        self.assertEqual(("Refused", 0), raised(desk.say, "take 12"))
        for _ in range(10):
            desk.say("put 0 on hall")
        self.assertEqual("=", desk.say("put 10 on hall"))
        self.assertEqual(12, len(desk.live.world.plan.deeds))

    def test_the_errors_of_the_world(self):
        desk = desk_with(RICH)
        ahead = state(desk)
        for command, error in [("world part p", ("InvalidText", 1)), ("world ;", ("InvalidText", 1)), ("world part P ; plan", ("InvalidHouse", 0)),
                               ("world part p ; kind k ; gone ; plan", ("InvalidGuest", 0)), ("world part p ; plan ; of p", ("InvalidText", 2)),
                               ("world part p ; plan ; off q", ("NoName", "q")), ("put 4 off p", ("Refused", 3)),
                               ("put 0 of p", ("InvalidPlan", 0)), ("put 1 off z", ("NoName", "z")), ("put 1 off 1", ("InvalidPlan", 1)),
                               ("take 3", ("Refused", 2)), ("turn p", ("NoName", "p")), ("turn 1", ("NoName", "1")), ("keep d", ("NoName", "d")),
                               ("write k 0 rest", ("NoName", "k")), ("write b 2 rest", ("Refused", 1)), ("write b 1 go 1", ("InvalidGuest", 1)),
                               ("write b 1 set c 3", ("InvalidGuest", 1)), ("write b 1 go z", ("NoName", "z")),
                               ("write b 1 set c 01", ("InvalidGuest", 1)), ("write b 0 7", ("InvalidGuest", 0)),
                               ("least dim p", ("InvalidSize", "harm")), ("least inside c", ("NoName", "c")), ("story lost p", ("NoName", "p")),
                               ("story off p", ("InvalidSize", "harm"))]:
            self.assertEqual(error, raised(desk.say, command), command)
            self.assertEqual(ahead, state(desk))
        nothing = Desk()
        self.assertEqual(("InvalidText", 1), raised(nothing.say, "world part"))
        self.assertIsNone(nothing.live)

    def test_too_many_standings(self):
        rows = " ; ".join(f"kind {name} ; go d ; see c ; set c 1 ; set e 2 ; go d" for name in "ab")
        text = f"part p ; door d out p open ; cell c p ; cell e p ; {rows} ; plan ; drain p"
        desk = desk_with()
        ahead = state(desk)
        self.assertEqual(("InvalidSize", "standings"), raised(desk.say, "world " + text))
        self.assertEqual(ahead, state(desk))


if __name__ == "__main__":
    unittest.main()
