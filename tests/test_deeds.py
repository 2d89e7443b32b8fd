"""Points 20 and 21: what outsiders do."""

import unittest

from nestcall.errors import BadAct, BadText
from nestcall.house import read_house
from nestcall.outsider import Outsider, acts_of, outsider_of, outsider_text, read_outsider
from nestcall.walk import Walk, walk
from tests.acting import answer, call
from tests.reference import calls_of
from tests.small import SmallMaker
from tests.test_outsider import Chooser
from tests.test_rows import OPEN_BANK, SAFE_BANK, bank

DRAW = call("draw")
# put and secret leave a number behind, fail always fails, and twice asks two questions.
BOX = (
    "contract bank var x 64 0 var z 64 0 proc put 64 shown set x given end proc fail 3 shown need 0 end"
    " proc twice 1 shown ask z 5 ask z 3 end proc secret 4 hidden set x given end end"
)


class DeedChecks:
    """Checks of what outsiders do, for test cases."""

    def check_acts(self, house_text, text, count, acts):
        """The outsider does these acts, whenever it is asked for them; nothing is modified."""
        house, outsider = read_house(house_text), read_outsider(text)
        for _ in range(2):
            found = acts_of(house, outsider, count)
            self.assertIs(type(found), list)
            self.assertEqual(found, acts, text)
        self.assertEqual((house, outsider), (read_house(house_text), read_outsider(text)))
        walk(house, found)
        found.append("more")
        self.assertEqual(acts_of(house, outsider, count), acts)


class ActsOfTest(DeedChecks, unittest.TestCase):
    def test_nested_calls(self):
        """Behind the first answer the credit is gone, so that the next call fails, and all begins anew."""
        text = "when < deep 3 call bank draw 0 0 when asked answer 0 0"
        self.check_acts(OPEN_BANK, text, 10, ([DRAW] * 3 + [answer(0)] + [DRAW]) * 2)

    def test_the_best_play(self):
        text = "when < cell 3 call bank draw 0 + cell 1 when deep answer 0 cell"
        acts = [DRAW] * 3 + [answer(0)] * 3
        self.check_acts(OPEN_BANK, text, 10, acts)
        self.assertEqual(walk(read_house(OPEN_BANK), acts).state, bank(0, 0, 3))

    def test_the_first_rule_that_counts(self):
        rules = ["when 0 call bank put 1 0", "when cell call bank put 2 0", "when 3 call bank put 4 0", "when 1 call bank put 5 0"]
        self.check_acts(BOX, " ".join(rules), 2, [call("put", 4)] * 2)
        self.check_acts(BOX, " ".join(rules[::-1]), 2, [call("put", 5)] * 2)
        self.check_acts(BOX, " ".join(rules[:2]), 2, [])

    def test_the_cell_before_the_act(self):
        """The number is that of the cell before it changes, and the cell changes by what was true before the act."""
        self.check_acts(BOX, "when 1 call bank put cell + cell 3", 4, [call("put", n) for n in (0, 3, 6, 9)])
        text = "when asked call bank put cell 0 when 1 call bank twice 0 + 1 + * 10 asked deep"
        self.check_acts(BOX, text, 2, [call("twice"), call("put", 1)])

    def test_asked(self):
        """It is put into the cell behind each act, and told by the number of a later call."""
        text = (
            "when = cell 0 call bank twice 0 1 when = cell 1 call bank put asked 2 when = cell 2 answer 4 3"
            " when = cell 3 call bank put asked 4 when = cell 4 answer 2 5 when = cell 5 call bank put + 60 asked 6")
        acts = [call("twice"), call("put", 5), answer(4), call("put", 3), answer(2), call("put", 60)]
        self.check_acts(BOX, text, 9, acts)

    def test_asked_before(self):
        self.check_acts(BOX, "when 1 call bank put + 7 asked 0", 1, [call("put", 7)])

    def test_asked_in_nested_questions(self):
        """The question that was asked last and is still open allows 5, 3, or again 5 answers."""
        text = (
            "when = cell 0 call bank twice 0 1 when = cell 1 call bank put asked 2 when = cell 2 call bank twice 0 3"
            " when = cell 3 answer 0 4 when = cell 4 call bank put asked 5 when = cell 5 answer 0 6"
            " when = cell 6 call bank put asked 7")
        acts = [call("twice"), call("put", 5), call("twice"), answer(0), call("put", 3), answer(0), call("put", 5)]
        self.check_acts(BOX, text, 9, acts)

    def test_deep(self):
        text = (
            "when = cell 0 call bank put deep 1 when = cell 1 call bank twice 0 2 when = cell 2 call bank put deep 3"
            " when = cell 3 call bank twice 0 4 when = cell 4 call bank put deep 5 when < cell 7 answer 0 + cell 1"
            " when = cell 7 call bank put deep 8")
        acts = [call("put", 0), call("twice"), call("put", 1), call("twice"), call("put", 2), answer(0), answer(0),
                call("put", 1)]
        self.check_acts(BOX, text, 8, acts)

    def test_deep_behind_a_failure(self):
        """A failure leaves no question open."""
        text = "when failed call bank put deep 0 when = deep 2 call bank fail 0 0 when 1 call bank twice 0 0"
        self.check_acts(BOX, text, 4, [call("twice"), call("twice"), call("fail"), call("put", 0)])

    def test_failed(self):
        text = "when < failed 3 call bank fail failed 0 when = failed 3 call bank put failed 0"
        self.check_acts(BOX, text, 5, [call("fail", 0), call("fail", 1), call("fail", 2), call("put", 3), call("put", 3)])

    def test_failed_counts_outermost_calls(self):
        text = "when < deep 2 call bank twice 0 0 when = failed 2 answer 0 0 when 1 call bank fail failed 0"
        acts = [call("twice"), call("twice"), call("fail", 0), call("twice"), call("twice"), call("fail", 1),
                call("twice"), call("twice"), answer(0), answer(0), call("twice"), answer(0)]
        self.check_acts(BOX, text, 12, acts)

    def test_many_failures(self):
        """`failed` stays at 65535."""
        house = read_house("contract bank var x 2 0 proc fail 1 shown need 0 end proc p 1 shown set x 1 end end")
        outsider = read_outsider("when < failed 65535 call bank fail 0 0 when < cell 3 call bank fail 0 + cell 1"
                                 " when = failed 65535 call bank p 0 0")
        acts = acts_of(house, outsider, 65539)
        self.assertEqual(acts, [call("fail")] * 65538 + [call("p")])

    def test_values(self):
        """Values are computed as in a house."""
        for words, number in (
                ("+ 65535 4", 3), ("- 4 7", 0), ("* 256 256", 0), ("/ 7 2", 3), ("/ 7 0", 0), ("mod 7 0", 0),
                ("mod 7 4", 3), ("< 1 2", 1), ("< 2 2", 0), ("= 2 2", 1), ("= 2 1", 0), ("- * 3 4 + 1 2", 9)):
            self.check_acts(BOX, f"when 1 call bank put {words} 0", 1, [call("put", number)])
            self.check_acts(BOX, f"when = cell 0 call bank put 0 + {words} 1 when 1 call bank put - cell 1 0", 2,
                            [call("put", 0), call("put", number)])
            self.check_acts(BOX, f"when {words} call bank put 1 0", 1, [call("put", 1)] if number else [])

    def test_the_cell_stays_in_its_range(self):
        text = "when = cell 0 call bank put 0 65535 when = cell 65535 call bank put 1 + cell 2 when = cell 1 call bank put 2 9"
        self.check_acts(BOX, text, 9, [call("put", 0), call("put", 1), call("put", 2)])


class EndTest(DeedChecks, unittest.TestCase):
    def test_no_rule_counts(self):
        self.check_acts(BOX, "", 5, [])
        self.check_acts(BOX, "when 0 call bank put 0 0", 5, [])
        self.check_acts(BOX, "when < cell 2 call bank put cell + cell 1", 5, [call("put", 0), call("put", 1)])
        self.check_acts(BOX, "when asked answer 0 0", 5, [])

    def test_acts_that_cannot_be_done(self):
        """The rule counts, so that no later rule is asked."""
        for deed in (
                "call bank nothing 0", "call shop put 0", "call bank secret 0", "call bank put 64", "call bank fail 3",
                "answer 0", "call put bank 0", "call bank put 65535"):
            self.check_acts(BOX, f"when 1 {deed} 0 when 1 call bank put 0 0", 5, [])
            text = f"when = cell 0 call bank put 7 1 when 1 {deed} 0 when 1 call bank put 0 0"
            self.check_acts(BOX, text, 5, [call("put", 7)])

    def test_answers_out_of_range(self):
        text = "when deep answer {} 0 when 1 call bank twice 0 0"
        self.check_acts(BOX, text.format(5), 9, [call("twice")])
        self.check_acts(BOX, text.format(3), 9, [call("twice"), answer(3)])
        self.check_acts(BOX, text.format(2), 6, [call("twice"), answer(2), answer(2)] * 2)

    def test_an_answer_behind_the_last_question(self):
        self.check_acts(BOX, "when = cell 0 call bank twice 0 1 when 1 answer 0 1", 9, [call("twice"), answer(0), answer(0)])

    def test_a_call_that_fails_is_done(self):
        self.check_acts(BOX, "when 1 call bank fail 0 0", 3, [call("fail")] * 3)

    def test_counts(self):
        text = "when 1 call bank put cell mod + cell 1 3"
        for count in (0, 1, 2, 3, 7, 100):
            self.check_acts(BOX, text, count, [call("put", k % 3) for k in range(count)])

    def test_houses_with_nothing(self):
        for house in ("", "asset gold 3", "contract bank end"):
            self.check_acts(house, "when 1 call bank put 0 0", 3, [])
            self.check_acts(house, "when 1 answer 0 0", 3, [])


class OutsiderOfTest(unittest.TestCase):
    def check_round(self, house, acts):
        """The outsider of these acts does them, and its text writes it."""
        kept = list(acts)
        outsider = outsider_of(acts)
        self.assertEqual(acts, kept)
        self.assertIs(type(outsider), Outsider)
        self.assertIs(type(outsider.rules), tuple)
        self.assertEqual(acts_of(house, outsider, len(acts)), acts)
        again = read_outsider(outsider_text(outsider))
        self.assertEqual(again, outsider)
        self.assertEqual(acts_of(house, again, len(acts)), acts)
        for count in (0, 1, len(acts) // 2):
            self.assertEqual(acts_of(house, outsider, count), acts[:count])

    def test_no_acts(self):
        for text in ("", BOX, OPEN_BANK):
            self.check_round(read_house(text), [])

    def test_calls_and_answers(self):
        house = read_house(BOX)
        self.check_round(house, [call("put", 63)])
        self.check_round(house, [call("twice"), answer(4), answer(2)])
        self.check_round(house, [call("put", 1), call("twice"), call("twice"), answer(1), call("put", 5), answer(0), answer(3)])
        self.check_round(read_house(OPEN_BANK), [DRAW] * 3 + [answer(0)] * 3)
        self.check_round(read_house(SAFE_BANK), [DRAW, answer(0)])

    def test_the_same_act_again(self):
        self.check_round(read_house(BOX), [call("put", 1)] * 5 + [call("put", 2)] + [call("put", 1)] * 5)

    def test_calls_that_fail(self):
        house = read_house(BOX)
        self.check_round(house, [call("fail")] * 3)
        self.check_round(house, [call("twice"), call("fail", 2), call("put", 1), call("twice"), answer(0), call("fail")])

    def test_forty_acts(self):
        house = read_house(BOX)
        for count in (39, 40):
            self.check_round(house, [call("put", k) for k in range(count)])
        self.check_round(house, [call("twice"), answer(4)] * 20)

    def test_too_many_acts(self):
        for count in (41, 42, 100):
            for act in (call("put", 1), answer(0)):
                with self.assertRaises(BadText) as caught:
                    outsider_of([act] * count)
                self.assertEqual(caught.exception.at, count)

    def test_other_contracts(self):
        house = read_house("contract when proc answer 4 shown end end contract cell proc asked 3 shown end end")
        self.check_round(house, [("call", "when", "answer", 3), ("call", "cell", "asked", 2)])

    def test_small_houses(self):
        """Acts that a text chooses, done once more by the outsider of these acts."""
        longest = 0
        for seed in range(300):
            house = read_house(SmallMaker(seed).house())
            doing, acts = Walk(house), []
            calls = calls_of(house)
            for step in range(40 if calls else 0):
                act = answer(step % doing.asked()) if doing.asked() and (step * seed) % 3 else calls[(step * seed) % len(calls)]
                doing.act(act)
                acts.append(act)
            self.check_round(house, acts)
            longest = max(longest, len(acts))
        self.assertEqual(longest, 40)


class SlowlyTest(unittest.TestCase):
    """Acts of outsiders that are made at random, told once more by a Walk and Python's own numbers."""

    def value(self, expression, known):
        kind = expression[0]
        if kind == "number":
            return expression[1]
        if kind in known:
            return known[kind]
        left, right = self.value(expression[1], known), self.value(expression[2], known)
        return {
            "+": (left + right) % 65536, "-": max(left - right, 0), "*": left * right % 65536, "<": int(left < right),
            "/": left // right if right else 0, "mod": left % right if right else 0, "=": int(left == right)}[kind]

    def slow_acts(self, house, rules, count):
        doing, acts, cell = Walk(house), [], 0
        for _ in range(count):
            known = {"asked": doing.asked(), "deep": doing.depth(), "failed": doing.failed, "cell": cell}
            counting = [rule for rule in rules if self.value(rule[0], known)]
            if not counting:
                break
            deed = counting[0][1]
            cell = self.value(counting[0][2], known)
            try:
                acts.append(deed[:-1] + (self.value(deed[-1], known),))
                doing.act(acts[-1])
            except BadAct:
                acts.pop()
                break
        return acts

    def test_made_outsiders(self):
        longer = 0
        for seed in range(600):
            house = read_house(SmallMaker(seed).house())
            calls = calls_of(house)
            if not calls:
                continue
            rules = []
            for at, rule in enumerate(read_outsider(Chooser(seed).text()).rules[:6]):
                own = calls[at % len(calls)]
                deed = rule[1] if rule[1][0] == "answer" else own[:3] + (("mod", rule[1][3], ("number", 2)),)
                rules.append((rule[0], deed, rule[2]))
            acts = self.slow_acts(house, rules, 12)
            self.assertEqual(acts_of(house, Outsider(tuple(rules)), 12), acts, seed)
            longer += len(acts) > 2
        self.assertGreater(longer, 30)


if __name__ == "__main__":
    unittest.main()
