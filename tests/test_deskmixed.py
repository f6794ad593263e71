"""Mixed commands on a desk and on a model that does all anew from the lines."""

import unittest

from curvepieces.claims import contrary, paper_of
from curvepieces.desk import Desk
from tests.deskmodel import Model
from tests.desksupport import TWIN
from tests.support import Dice, exactly


class ModelTest(unittest.TestCase):
    """Mixed commands, right and wrong ones, on a desk and on a model that does all anew from the lines."""

    NAMES = ["p", "q", "r", "s", "c", "l", "v", "pp"]
    LABELS = ["k", "m", "n", "p"]
    TEXTS = {"plane": ["x", "x-y", "xx-2yy", "y", "0", "xy", "xx-1", "1", "xx+yy-1", "x+y-2", "3x-3y", "xxx-2yyy"],
             "line": ["t", "tt", "2t-1", "5", "0", "tt-2"], "change": ["x:y", "x+y:y", "y:x", "x:x", "x-1:2y"],
             "curve": ["t:1:0", "tt:t:1", "-tt+1:2t:tt+1", "t:t:t", "tt:ttt:1", "t:t:1"]}
    CLAIMS = ["pieces PLANE COUNT", "otherwise PLANE COUNT", "clean PLANE", "double PLANE", "within PLANE PLANE",
              "outside PLANE PLANE", "whole PLANE", "splits PLANE", "degrees CURVE COUNT", "unlike CURVE COUNT",
              "along CURVE PLANE COUNT", "aside CURVE PLANE COUNT"]
    COMMANDS = ["plane NEW TEXT", "line NEW TEXT", "curve NEW TEXT", "change NEW TEXT", "sum NEW PLANE PLANE",
                "less NEW PLANE PLANE", "times NEW PLANE PLANE", "common NEW PLANE PLANE", "over NEW PLANE PLANE",
                "plain NEW PLANE", "swap NEW PLANE", "slope NEW PLANE", "parting NEW PLANE", "led NEW PLANE CHANGE",
                "row NEW PLANE NUMBER", "drawn NEW CURVE LINE", "equation NEW CURVE", "turn PLANE CHANGE",
                "mult PLANE PLANE", "lead CURVE LINE", "drop NAME", "forget LABEL", "states", "names", "state LABEL",
                "claimed LABEL", "show NAME", "pieces PLANE", "bound PLANE", "parts PLANE", "clean PLANE", "whole PLANE",
                "count PLANE NUMBER", "good PLANE NUMBER", "value PLANE NUMBER NUMBER", "at CURVE NUMBER",
                "lesser CURVE", "passes CURVE", "same NAME PLANE", "same LINE LINE", "no", "drop  NAME"]

    def choose(self, dice, values):
        return values[dice.roll(0, len(values) - 1)]

    def part(self, dice, model, word, kind):
        """What stands for a word of a template; mostly what fits."""
        if word == "NEW":
            fit = [name for name in self.NAMES if name not in model.things]
        elif word in ("PLANE", "LINE", "CURVE", "CHANGE"):
            fit = [name for name in model.things if model.things[name][0] == word.lower()]
        elif word == "LABEL":
            return self.choose(dice, self.LABELS)
        elif word == "TEXT":
            return self.choose(dice, self.TEXTS[kind])
        elif word in ("NUMBER", "COUNT"):
            return str(dice.roll(-3, 12) if word == "NUMBER" else dice.roll(0, 5) if dice.roll(0, 9) else 9)
        elif word == "NAME":
            fit = []
        else:
            return word
        return self.choose(dice, fit) if fit and dice.roll(0, 9) else self.choose(dice, self.NAMES)

    def command(self, dice, model):
        """A command: one of the tables, by chance more often what notes claims, makes planes, takes back."""
        often = dice.roll(0, 9)
        if often < 3:
            template = "claim LABEL " + self.choose(dice, self.CLAIMS)
        elif often < 5:
            template = self.choose(dice, ["undo", "redo", "undo", "plane NEW TEXT", "plane NEW TEXT", "drop NAME"])
        else:
            template = self.choose(dice, self.COMMANDS)
        words = template.split(" ")
        return " ".join(self.part(dice, model, word, words[0]) for word in words)

    def outcome(self, function, *given):
        """What the call returns, or the error's class and attributes."""
        try:
            return "told", function(*given)
        except Exception as raised:
            return raised.__class__.__name__, exactly(sorted(raised.__dict__.items()))

    def papers(self, dice, model, label):
        """A paper of the label's claim, of its contrary, or none."""
        claim = model.claim_of(label) if label in model.noted else None
        if claim is None or not dice.roll(0, 4):
            return self.choose(dice, [1, None, ("y", 0), TWIN])
        paper = paper_of(claim)
        return paper_of(contrary(claim)) if paper is None else paper

    def test_mixed(self):
        seen = {}
        for seed in range(14):
            dice, desk, model = Dice(300 + seed), Desk(), Model()
            for _ in range(70):
                command = self.command(dice, model)
                wanted = self.outcome(model.do, command)
                self.assertEqual(self.outcome(desk.do, command), wanted, (desk.lines(), command))
                seen[wanted[0]] = seen.get(wanted[0], 0) + 1
                if not dice.roll(0, 2):
                    label = self.choose(dice, self.LABELS)
                    paper = self.papers(dice, model, label)
                    wanted = self.outcome(model.attach, label, paper)
                    self.assertEqual(self.outcome(desk.attach, label, paper), wanted)
                    seen["attach" + wanted[0]] = seen.get("attach" + wanted[0], 0) + 1
                for label in self.LABELS:
                    wanted = self.outcome(model.fits, label)
                    self.assertEqual(self.outcome(desk.fits, label), wanted, (desk.lines(), label))
                    seen[str(wanted[1])] = seen.get(str(wanted[1]), 0) + 1
                self.assertEqual((desk.names, desk.labels, len(desk), desk.lines()),
                                 (sorted(model.things), sorted(model.noted), len(model.deeds), model.deeds))
            self.assertEqual({name: desk[name] for name in desk.names},
                             {name: value for name, (_, value) in model.things.items()})
        for wanted in ("told", "NameTaken", "LabelTaken", "UnknownName", "UnknownLabel", "NothingToRedo", "NotClean",
                       "InvalidCommand", "InvalidClaim", "attachtold", "attachInvalidPaper", "True", "False"):
            self.assertGreater(seen.get(wanted, 0), 2, seen)


if __name__ == "__main__":
    unittest.main()
