"""Points 27, 28 and 29, and what points 3 and 32 say of them."""

import copy
import time
import unittest
from fractions import Fraction
from itertools import product
from random import Random

from chance_reckoning import (
    are_prices_by_hand, best_positions_by_hand, doubled_source, draws_by_hand, drawn_source, keep_by_hand, ordered_steps,
    pairs_by_hand, rates_by_hand, round_source, rule_positions_by_hand, some_source, told, wrong_fractions,
)
from helpers import FOUR_MODES, IDLE_MODE, ONE_MODE, SYSTEMS, THREE_MODES, TWO_MODES, odd_values
from joint_reckoning import drawn_rules, outcome
from latewise.averages import best_average, expected_cost, rule_average
from latewise.errors import TooManyStates, UnfitSource
from latewise.games import least_factor
from latewise.mixing import best_mixture
from latewise.mixtures import mixture_factor
from latewise.prices import are_prices, keep_prices, least_average, prices_with_orders, shown_factor
from latewise.rules import Rule
from latewise.sources import Source
from latewise.systems import System
from reckoning import able_modes, cost_of_step, drawn_rule, drawn_system

SOURCE = Source([{"q": (1, 0), "p": (1, 0)}])
UNFIT_SOURCE = Source([{"q": (1, 1)}, {"z": (1, 0), "r": (1, 0), "p": (1, 0)}])
RING = System([[0, 0, 0], [0, 0, 1], [0, 1, 0]], {"a": [1, 0, 0], "b": [1, 0, 1], "c": [1, 1, 0], "e": [0, 1, 1]})
RING_SOURCE = Source([{"a": (1, 1)}, {"b": (1, 2), "c": (1, 2)}, {"e": (1, 0)}])
FREE = System([[0, 0], [0, 0]], {"q": [0, 1], "p": [1, 0]})
MORE_BEST = (
    System([[0, 2, 4], [3, 0, 2], [3, 3, 0]], {"a": [0, 4, 2], "b": [2, 0, 4], "c": [4, 3, 3]}),
    Source([{"a": (8, 0), "b": (1, 0), "c": (5, 0)}]),
)
EIGHTY_BEST = (
    System([[0, 1, 0, 2], [4, 0, 2, 3], [4, 3, 0, 4], [4, 0, 4, 0]],
           {"a": [2, 3, 0, 3], "b": [4, 1, 4, 0], "c": [0, 4, 3, 4]}),
    Source([{"a": (2, 0), "b": (9, 0), "c": (2, 0)}]),
)


def drawn_cases(seed, many):
    """So many systems of each size with a source of each number of states."""
    draw = Random(seed)
    for modes, kinds in product(range(1, 5), range(1, 5)):
        for states in range(1, 5):
            for _ in range(many):
                system = drawn_system(draw, modes, kinds, draw.choice([2, 4, 100]))
                yield system, some_source(draw, list(system.names), states)


def all_orders(system, source):
    """All orders for all pairs."""
    pairs = pairs_by_hand(system, source)
    cells = [(pair, kind) for pair in pairs for kind, _, _ in draws_by_hand(source, pair[0])]
    for modes in product(*[able_modes(system, kind) for _, kind in cells]):
        found = {pair: {} for pair in pairs}
        for (pair, kind), mode in zip(cells, modes):
            found[pair][kind] = mode
        yield found


def count_of_orders(system, source):
    """How many orders there are."""
    count = 1
    for place, _ in pairs_by_hand(system, source):
        for kind, _, _ in draws_by_hand(source, place):
            count *= len(able_modes(system, kind))
    return count


def least_expected(system, source, many):
    """The least expected cost for so many requests, from each pair."""
    now = {pair: Fraction(0) for pair in pairs_by_hand(system, source)}
    for _ in range(many):
        now = {
            (place, mode): sum(
                odds * min(cost_of_step(system, mode, kind, chosen) + now[behind, chosen] for chosen in able_modes(system, kind))
                for kind, odds, behind in draws_by_hand(source, place)
            ) for place, mode in now
        }
    return now


class LeastAverages(unittest.TestCase):
    def test_all_orders_tried_out(self):
        draw = Random(131)
        found = 0
        seen = {}
        while found < 25:
            system = drawn_system(draw, draw.choice([2, 2, 3]), draw.choice([1, 2, 2]), draw.choice([3, 100]))
            source = some_source(draw, list(system.names), draw.choice([1, 2, 3]))
            if not 4 <= count_of_orders(system, source) <= 256:
                continue
            found += 1
            rates = []
            for orders in all_orders(system, source):
                steps = ordered_steps(system, source, orders)
                some = rates_by_hand(steps)
                rates += some.values()
                seen[len(set(some.values())) > 1] = True
            self.assertEqual(least_average(system, source), told(min(rates)))
        self.assertEqual(len(seen), 2)

    def test_prices_and_orders_prove_it(self):
        for system, source in drawn_cases(132, 3):
            least = least_average(system, source)
            some_prices, orders = prices_with_orders(system, source)
            self.judge(system, source, some_prices, orders)
            self.assertEqual(least, told(Fraction(*least)))
            self.assertTrue(keep_by_hand(system, source, least, some_prices, orders))
            self.assertIs(are_prices(system, source, least, some_prices), True)
            self.assertIs(keep_prices(system, source, least, some_prices, orders), True)
            self.assertEqual(set(rates_by_hand(ordered_steps(system, source, orders)).values()), {Fraction(*least)})

    def judge(self, system, source, some_prices, orders):
        """That the kinds of values are right, and the keys just those."""
        pairs = pairs_by_hand(system, source)
        self.assertEqual([type(some_prices), type(orders)], [dict, dict])
        self.assertEqual(len({id(order) for order in orders.values()}), len(orders))
        self.assertEqual([set(some_prices), set(orders)], [set(pairs)] * 2)
        for price in some_prices.values():
            self.assertEqual(price, told(Fraction(*price)))
        for (place, _), order in orders.items():
            self.assertEqual(set(order), set(source.states()[place]))
            for kind, mode in order.items():
                self.assertIs(type(mode), int)
                self.assertIn(mode, able_modes(system, kind))

    def test_expected_costs_differ_from_it_by_a_constant(self):
        for system, source in list(drawn_cases(133, 1))[::3]:
            least = Fraction(*least_average(system, source))
            prices = [Fraction(*price) for price in prices_with_orders(system, source)[0].values()]
            for many in (1, 5, 20):
                for paid in least_expected(system, source, many).values():
                    self.assertLessEqual(abs(paid - many * least), max(prices) - min(prices))

    def test_by_hand(self):
        self.assertEqual([least_average(TWO_MODES, SOURCE), shown_factor(TWO_MODES, SOURCE)], [(1, 2), (7, 6)])
        self.assertEqual(least_average(RING, RING_SOURCE), (1, 6))
        self.assertEqual(least_average(ONE_MODE, Source([{"a": (5, 0)}])), (3, 1))
        self.assertEqual(least_average(FREE, SOURCE), (0, 1))
        # Of nine requests in ten the mode 0 pays nothing.
        self.assertEqual(least_average(TWO_MODES, Source([{"p": (9, 0), "q": (1, 0)}])), (1, 10))
        # It is too dear to leave the mode 0 for good, and the way to the last mode costs nothing on average.
        self.assertEqual(least_average(THREE_MODES, Source([{"z": (1, 0), "x": (1, 0)}])), (0, 1))

    def test_each_mode_that_is_never_left_is_dear(self):
        # Who stays pays always; who changes the mode at the right requests only pays nothing.
        system = System([[0, 0, 4], [4, 0, 0], [0, 4, 0]], {"a": [0, 1, 4], "b": [4, 0, 1], "c": [1, 4, 0]})
        source = Source([{"a": (1, 1)}, {"b": (1, 2)}, {"c": (1, 0)}])
        self.assertEqual(least_average(system, source), (0, 1))
        # Where the requests go round the other way, each switch is dear, and to stay costs (0 + 1 + 4) / 3 on average.
        other = Source([{"a": (1, 1)}, {"c": (1, 2)}, {"b": (1, 0)}])
        self.assertLessEqual(Fraction(*least_average(system, other)), Fraction(5, 3))
        self.assertTrue(keep_by_hand(system, other, least_average(system, other), *prices_with_orders(system, other)))

    def test_one_kind_a_state(self):
        draw = Random(134)
        for system, _ in drawn_cases(135, 1):
            source = round_source(draw, list(system.names), draw.randint(1, 4))
            if best_positions_by_hand(system, source, 80):
                self.assertEqual(least_average(system, source), best_average(system, source))

    def test_no_rule_is_below(self):
        draw = Random(136)
        for system, source in list(drawn_cases(137, 1))[::2]:
            least = Fraction(*least_average(system, source))
            for _ in range(3):
                rule = drawn_rule(draw, system, draw.randint(1, 3))
                if rule_positions_by_hand(system, rule, source, 80):
                    self.assertLessEqual(least, Fraction(*rule_average(system, rule, source)))
            if best_positions_by_hand(system, source, 80):
                self.assertLessEqual(Fraction(*best_average(system, source)), least)

    def test_sources_that_draw_alike(self):
        draw = Random(138)
        for system, source in list(drawn_cases(139, 1))[::2]:
            self.assertEqual(least_average(system, doubled_source(draw, source)), least_average(system, source))

    def test_four_states_and_four_modes_and_how_long_they_take(self):
        draw = Random(140)
        for _ in range(20):
            system = drawn_system(draw, 4, 4, 100)
            source = drawn_source(draw, list(system.names), 4)
            begun = time.monotonic()
            least = least_average(system, source)
            self.assertIs(keep_prices(system, source, least, *prices_with_orders(system, source)), True)
            self.assertLess(time.monotonic() - begun, 10)


class Judged(unittest.TestCase):
    def test_prices_that_are_moved(self):
        judged = {}
        moves = [Fraction(1), Fraction(-1, 3), Fraction(1, 10 ** 50), Fraction(-10 ** 60)]
        for system, source in list(drawn_cases(141, 1))[::3]:
            least = least_average(system, source)
            some_prices, orders = prices_with_orders(system, source)
            for pair, by in product(some_prices, moves):
                moved = {**some_prices, pair: told(Fraction(*some_prices[pair]) + by)}
                right = are_prices_by_hand(system, source, least, moved)
                kept = keep_by_hand(system, source, least, moved, orders)
                judged[right, kept] = True
                self.assertIs(are_prices(system, source, least, moved), right)
                self.assertIs(keep_prices(system, source, least, moved, orders), kept)
        self.assertEqual(len(judged), 3)

    def test_other_fractions(self):
        for system, source in list(drawn_cases(142, 1))[::4]:
            least = least_average(system, source)
            some_prices, orders = prices_with_orders(system, source)
            for by in (Fraction(-5), Fraction(-1, 10 ** 40), Fraction(1, 10 ** 40), Fraction(2, 3)):
                moved = told(Fraction(*least) + by)
                self.assertIs(are_prices(system, source, moved, some_prices), by < 0)
                # For this fraction alone there are orders that keep prices.
                self.assertIs(keep_prices(system, source, moved, some_prices, orders), False)
            raised = {pair: told(Fraction(*price) - Fraction(10 ** 30, 7)) for pair, price in some_prices.items()}
            self.assertIs(are_prices(system, source, least, raised), True)
            self.assertIs(keep_prices(system, source, least, raised, orders), True)

    def test_all_orders_judged(self):
        draw = Random(143)
        judged = {}
        for _ in range(12):
            system = drawn_system(draw, 2, draw.choice([1, 2]), 100)
            source = some_source(draw, list(system.names), draw.choice([1, 2]))
            least = least_average(system, source)
            some_prices, _ = prices_with_orders(system, source)
            for orders in list(all_orders(system, source))[:300]:
                right = keep_by_hand(system, source, least, some_prices, orders)
                judged[right] = True
                self.assertIs(keep_prices(system, source, least, some_prices, orders), right)
        self.assertEqual(len(judged), 2)

    def with_booleans(self, value):
        if isinstance(value, tuple):
            return tuple(self.with_booleans(part) for part in value)
        return bool(value) if type(value) is int and value in (0, 1) else value

    def test_keys(self):
        source = Source([{"q": (2, 0), "p": (1, 1)}, {"q": (1, 0)}])
        least = least_average(TWO_MODES, source)
        some_prices, orders = prices_with_orders(TWO_MODES, source)
        self.assertIs(keep_prices(TWO_MODES, source, least, some_prices, orders), True)
        for one in some_prices:
            fewer = {pair: some_prices[pair] for pair in some_prices if pair != one}
            fewer_orders = {pair: orders[pair] for pair in orders if pair != one}
            self.assertIs(are_prices(TWO_MODES, source, least, fewer), False)
            self.assertIs(keep_prices(TWO_MODES, source, least, fewer, orders), False)
            self.assertIs(keep_prices(TWO_MODES, source, least, some_prices, fewer_orders), False)
            for other in (None, (), "pair", one[:1], (*one, 0), (one[0] + 2, one[1]), (one[0], one[1] + 2), (-1, 0), (one,)):
                for some in ({**fewer, other: some_prices[one]}, {**some_prices, other: some_prices[one]}):
                    self.assertIs(are_prices(TWO_MODES, source, least, some), False)
                    self.assertIs(keep_prices(TWO_MODES, source, least, some, orders), False)
                for some in ({**fewer_orders, other: orders[one]}, {**orders, other: orders[one]}):
                    self.assertIs(keep_prices(TWO_MODES, source, least, some_prices, some), False)
        odd = {self.with_booleans(pair): price for pair, price in reversed(list(some_prices.items()))}
        odd_orders = {self.with_booleans(pair): order for pair, order in reversed(list(orders.items()))}
        self.assertIs(are_prices(TWO_MODES, source, least, odd), True)
        self.assertIs(keep_prices(TWO_MODES, source, least, odd, odd_orders), True)

    def test_values_that_are_no_prices(self):
        least = least_average(TWO_MODES, SOURCE)
        some_prices, orders = prices_with_orders(TWO_MODES, SOURCE)
        wrong = odd_values() + [list(some_prices.items()), tuple(some_prices.items()), orders, SOURCE, (0, 1), "prices"]
        wrong += [{**some_prices, (0, 1): value} for value in wrong_fractions()]
        wrong += [{pair: value for pair in some_prices} for value in wrong_fractions()]
        for value in wrong:
            self.assertIs(are_prices(TWO_MODES, SOURCE, least, value), False)
            self.assertIs(are_prices(TWO_MODES, SOURCE, (-1000, 1), value), False)
            self.assertIs(keep_prices(TWO_MODES, SOURCE, least, value, orders), False)
            self.assertIs(keep_prices(TWO_MODES, SOURCE, least, value, value), False)

    def test_values_that_are_no_orders(self):
        least = least_average(TWO_MODES, SOURCE)
        some_prices, orders = prices_with_orders(TWO_MODES, SOURCE)
        wrong = odd_values() + [list(orders.items()), tuple(orders.items()), some_prices, SOURCE, (0, 1), "orders"]
        for pair, order in orders.items():
            for value in odd_values() + [list(order.items()), (order,), [order], "pq", 1]:
                wrong.append({**orders, pair: value})
            wrong += [{**orders, pair: {"q": order["q"]}}, {**orders, pair: {**order, "z": 0}}, {**orders, pair: {**order, None: 0}}]
            wrong += [{**orders, pair: {"q": order["q"], "z": 0}}, {**orders, pair: {"q": order["q"], "P": order["p"]}}]
            for kind in order:
                for value in odd_values() + [2, 4, "0", "1", (0,), [1]]:
                    wrong.append({**orders, pair: {**order, kind: value}})
        for value in wrong:
            self.assertIs(keep_prices(TWO_MODES, SOURCE, least, some_prices, value), False)

    def test_modes_that_cannot_serve(self):
        source = Source([{"z": (1, 0), "x": (1, 0)}])
        least = least_average(THREE_MODES, source)
        some_prices, orders = prices_with_orders(THREE_MODES, source)
        self.assertIs(keep_prices(THREE_MODES, source, least, some_prices, orders), True)
        for pair, order in orders.items():
            for mode in (0, 1, 3, True):
                self.assertIs(keep_prices(THREE_MODES, source, least, some_prices, {**orders, pair: {**order, "x": mode}}), False)
        # A kind of the system that the state does not have is no key.
        source = Source([{"z": (1, 1)}, {"x": (1, 0)}])
        least = least_average(THREE_MODES, source)
        some_prices, orders = prices_with_orders(THREE_MODES, source)
        self.assertEqual(set(orders[1, 0]), {"x"})
        self.assertIs(keep_prices(THREE_MODES, source, least, some_prices, {**orders, (1, 0): {"x": 2, "z": 2}}), False)

    def test_fractions_that_are_none(self):
        some_prices, orders = prices_with_orders(TWO_MODES, SOURCE)
        self.assertIs(are_prices(TWO_MODES, SOURCE, (-3, 1), some_prices), True)
        for value in wrong_fractions():
            self.assertIs(are_prices(TWO_MODES, SOURCE, value, some_prices), False)
            self.assertIs(keep_prices(TWO_MODES, SOURCE, value, some_prices, orders), False)
        self.assertIs(are_prices(FREE, SOURCE, (0, 1), {(0, 0): (0, 1), (0, 1): (0, 1)}), True)
        self.assertIs(are_prices(FREE, SOURCE, (0, 2), {(0, 0): (0, 1), (0, 1): (0, 1)}), False)
        self.assertIs(are_prices(FREE, SOURCE, (False, 1), {(0, 0): (0, 1), (0, 1): (0, 1)}), False)


class ShownFactors(unittest.TestCase):
    def test_of_each_size(self):
        seen = {}
        for system, source in drawn_cases(144, 3):
            if not best_positions_by_hand(system, source, 80):
                self.assertEqual(outcome(lambda: shown_factor(system, source)), [TooManyStates, {}])
                continue
            least, best = Fraction(*least_average(system, source)), Fraction(*best_average(system, source))
            if best > 0:
                self.assertEqual(shown_factor(system, source), told(least / best))
            else:
                self.assertEqual(shown_factor(system, source), (1, 1) if least == 0 else None)
            seen[best > 0, least > best] = True
        self.assertEqual(len(seen), 3)

    def test_by_hand(self):
        self.assertEqual(shown_factor(RING, RING_SOURCE), None)
        self.assertEqual([best_average(RING, RING_SOURCE), least_factor(RING)], [(0, 1), None])
        self.assertEqual(shown_factor(FREE, SOURCE), (1, 1))
        self.assertEqual(shown_factor(TWO_MODES, Source([{"p": (9, 0)}])), (1, 1))
        self.assertEqual(shown_factor(ONE_MODE, Source([{"a": (9, 0)}])), (1, 1))

    def test_it_is_at_most_the_factors(self):
        draw = Random(145)
        judged = 0
        for system, source in drawn_cases(146, 1):
            shown = outcome(lambda: shown_factor(system, source))
            least = outcome(lambda: least_factor(system))
            if not isinstance(shown, list) and not isinstance(least, list) and least is not None:
                self.assertLessEqual(Fraction(*shown), Fraction(*least))
            rules = drawn_rules(draw, system, draw.randint(1, 3))
            mixture = rules and outcome(lambda: best_mixture(system, rules))
            if mixture and not isinstance(mixture, list) and not isinstance(shown, list):
                judged += 1
                self.assertLessEqual(Fraction(*shown), Fraction(*mixture_factor(system, mixture)))
        self.assertGreater(judged, 10)

    def test_positions_of_the_best_are_counted(self):
        self.assertEqual(len(best_positions_by_hand(*EIGHTY_BEST)), 80)
        self.assertEqual(len(best_positions_by_hand(*MORE_BEST)), 81)
        begun = time.monotonic()
        self.assertGreaterEqual(Fraction(*shown_factor(*EIGHTY_BEST)), 1)
        self.assertLess(time.monotonic() - begun, 20)
        self.assertEqual(outcome(lambda: shown_factor(*MORE_BEST)), [TooManyStates, {}])
        least = least_average(*MORE_BEST)
        self.assertIs(keep_prices(*MORE_BEST, least, *prices_with_orders(*MORE_BEST)), True)


class Errors(unittest.TestCase):
    def test_unfit_source_ahead_of_all(self):
        some_prices, orders = prices_with_orders(TWO_MODES, SOURCE)
        states = [{**MORE_BEST[1].states()[0], "zz": (1, 0)}]
        for system, source, place, kind in ((TWO_MODES, UNFIT_SOURCE, 1, "r"), (MORE_BEST[0], Source(states), 0, "zz")):
            for call in (
                lambda: least_average(system, source), lambda: prices_with_orders(system, source),
                lambda: are_prices(system, source, (1, 2), some_prices), lambda: are_prices(system, source, None, None),
                lambda: keep_prices(system, source, (1, 2), some_prices, orders), lambda: shown_factor(system, source),
                lambda: keep_prices(system, source, 0, [], {}),
            ):
                self.assertEqual(outcome(call), [UnfitSource, {"place": place, "kind": kind}])


class Passed(unittest.TestCase):
    def test_by_name(self):
        self.assertEqual(least_average(source=SOURCE, system=TWO_MODES), (1, 2))
        some_prices, orders = prices_with_orders(source=SOURCE, system=TWO_MODES)
        self.assertIs(are_prices(some_prices=some_prices, fraction=(1, 2), source=SOURCE, system=TWO_MODES), True)
        self.assertIs(keep_prices(orders=orders, some_prices=some_prices, fraction=(1, 2), source=SOURCE, system=TWO_MODES), True)
        self.assertEqual(shown_factor(source=SOURCE, system=TWO_MODES), (7, 6))

    def test_kinds_of_values(self):
        found = prices_with_orders(TWO_MODES, SOURCE)
        self.assertEqual([type(found), len(found)], [tuple, 2])

    def test_arguments_are_not_changed(self):
        some_prices, orders = prices_with_orders(TWO_MODES, SOURCE)
        for value in odd_values() + wrong_fractions() + [some_prices, orders]:
            kept = copy.deepcopy(value)
            are_prices(TWO_MODES, SOURCE, value, value)
            are_prices(TWO_MODES, SOURCE, (1, 2), value)
            keep_prices(TWO_MODES, SOURCE, (1, 2), some_prices, value)
            self.assertEqual(value, kept)

    def test_results_are_new(self):
        for system, source in ((TWO_MODES, SOURCE), (RING, RING_SOURCE)):
            some_prices, orders = prices_with_orders(system, source)
            kept = copy.deepcopy((some_prices, orders))
            self.assertEqual(len({id(order) for order in orders.values()}), len(orders))
            for order in orders.values():
                order.clear()
            orders.clear()
            some_prices.clear()
            self.assertEqual(prices_with_orders(system, source), kept)

    def test_dicts_that_are_changed_between_two_calls(self):
        some_prices, orders = prices_with_orders(TWO_MODES, SOURCE)
        mode = orders[0, 0]["p"]
        price = some_prices[0, 1]
        for _ in range(2):
            self.assertIs(keep_prices(TWO_MODES, SOURCE, (1, 2), some_prices, orders), True)
            orders[0, 0]["p"] = 1 - mode
            self.assertIs(keep_prices(TWO_MODES, SOURCE, (1, 2), some_prices, orders), False)
            orders[0, 0]["p"] = mode
            some_prices[0, 1] = (100, 1)
            self.assertIs(are_prices(TWO_MODES, SOURCE, (1, 2), some_prices), False)
            some_prices[0, 1] = price

    def test_partners_in_turns(self):
        draw = Random(147)
        cases = [(system, drawn_source(draw, list(system.names), many)) for system in SYSTEMS + [IDLE_MODE, FOUR_MODES] for many in (1, 3)]
        wanted = [(least_average(*case), prices_with_orders(*case)) for case in cases]
        for case, one in zip(cases[::-1], wanted[::-1]):
            again = System(case[0].switches(), case[0].kinds()), Source(case[1].states())
            self.assertEqual((least_average(*case), prices_with_orders(*case)), one)
            self.assertEqual(least_average(*again), one[0])

    def test_a_rule_that_does_as_the_orders_say(self):
        # Where the source is in one state, orders are a rule whose states are the modes.
        for system, source in list(drawn_cases(148, 1)):
            if len(source.states()) == 1 and set(source.states()[0]) == set(system.names):
                orders = prices_with_orders(system, source)[1]
                rule = Rule([{kind: (mode, mode) for kind, mode in orders[0, at].items()} for at in range(system.modes)])
                self.assertEqual(rule_average(system, rule, source), least_average(system, source))
                self.assertGreaterEqual(
                    Fraction(*expected_cost(system, rule, source, 9)), least_expected(system, source, 9)[0, 0])


if __name__ == "__main__":
    unittest.main()
