"""What the interface lists, and of each argument good values and such as are refused."""

from nearadds import backward, errors, factors, farcells, keptsums, kernels, meets, programs, reading, rings, rounds
from nearadds import rules, texts, toldback, walls
from tests.worked import FAR

INTERFACE = {
    rules: {
        "is_rule": "value", "is_row": "value", "is_round": "value", "is_program": "value", "primes_of": "modulus",
        "still": "modulus", "plus": "one other", "behind": "one other", "power": "rule times",
        "by_prime": "rule prime", "put_together": "modulus parts", "step": "rule row", "round_step": "rule row",
        "added": "one other",
    },
    factors: {
        "factored": "rule", "of_factors": "modulus value", "is_factor": "prime value", "order": "prime factor",
        "common": "one other",
    },
    programs: {
        "alike": "one other", "parting": "one other", "span": "program", "total": "program", "joined": "one other",
        "as_rule": "program", "power_of": "program times", "undone": "program",
    },
    meets: {
        "meets": "one other", "meets_at": "one other a b", "meets_often": "one other", "root": "rule times",
        "greatest_root": "rule", "comes_round": "rule",
    },
    farcells: {
        "cell": "program row place", "cells": "program row place count", "first_cell": "program row",
        "last_cell": "program row", "row_total": "program row", "parting_cell": "one other row",
    },
    backward: {
        "ahead": "rule row", "bar": "rule row", "bars": "rule row value", "steps_back": "rule row",
        "row_back": "rule row times",
    },
    kernels: {
        "free_cells": "rule times", "dying_cell": "rule times values place", "dying_round": "rule times values",
        "dies_in": "rule row", "both_die": "one other",
    },
    toldback: {
        "fitting": "modulus reach looks", "how_many": "modulus reach looks", "further_rules": "modulus reach looks",
        "further_hold": "modulus reach looks value", "refusal": "modulus reach looks",
        "refuses": "modulus reach looks value", "sure_value": "modulus reach looks cells",
        "more_looks": "modulus reach looks", "next_cells": "modulus reach looks",
        "wrong_looks": "modulus reach looks", "which_wrong": "modulus reach looks",
    },
    rounds: {
        "round_after": "program row", "rounds_ahead": "rule row", "round_bar": "rule row",
        "round_bars": "rule row value", "least_ahead": "rule row", "comes_again": "rule row",
    },
    rings: {
        "losing": "rule", "loses": "rule n", "nought_dims": "rule n", "coming_dims": "rule n", "longest_tail": "rule n",
        "first_unlike_ring": "one other", "ring_round": "rule n", "rounds_of": "rule n",
    },
    walls: {
        "unfolded": "row kind", "walled_step": "rule row kind", "walled_after": "program row kind",
        "walled_losing": "rule kind", "walled_noughts": "rule kind n", "walled_tail": "rule kind n",
    },
    keptsums: {
        "free_weights": "rule factor", "weight": "rule factor values place", "weighted": "rule factor values row",
        "weights_round": "rule factor values", "ring_weights": "rule factor n", "weight_rings": "rule factor",
        "all_round_weights": "rule factor n",
    },
    texts: {"show_rule": "rule", "show_row": "row", "show_round": "row", "show_program": "program"},
    reading: {"read_rule": "text", "read_row": "text", "read_round": "text", "read_program": "text"},
}

RULE, ROW, ROUND = (6, ((-1, 2), (1, 3))), (6, ((0, 1), (5, 4))), (6, (0, 5, 3))
PROGRAM = (6, ((((-1, 2), (1, 3)), 3), ((), 0), (((0, 5),), 10 ** 29)))
OF_PRIME = (3, ((-1, 1), (0, 1), (1, 1)))
LOOKS = (((1, 0, 5), 2), ((0, 3, 0), 0))
PARTS, LIST = [((0, 1),), ((0, 2), (1, 1))], [(2, 0, 1, (((1, 1), 2),)), (3,)]

NO_RULES = [
    None, [6, ()], (6, [(0, 1)]), (6, [[0, 1]]), (6, ((0, [1]),)), (4, ()), (6, ((0, 6),)), (6, ((0, True),)),
    (6, ((1, 1), (0, 1))), (6, ((0, 1), (0, 2))), (6, (), ()), [[1], [[2]], ([3],)], ()]

NO_ROUNDS = [
    None, (6, ()), [6, [0]], (6, [0, 1]), (6, (6,)), (6, (-1,)), (6, (True,)), (12, (0,)), (6, ((0, 1),)),
    (6, (0, [1], ([2], [3])))]

NO_TEXTS = [
    None, "", "6", "6:", "6: ", "6:-", "4: -", "06: -", " 6: -", "6: -\n", "6: 1,5", b"6: -", ["6: -"], ("6: -",),
    {"6: -": []}, [[], (["6"],)], 6, True]

NO_PROGRAMS = [
    None, [6, ()], (6, []), (6, ((),)), (6, (((), -1),)), (6, (((), 10 ** 30 + 1),)), (6, (((), True),)),
    (6, (), 1), (6, ([(), 1],)), (6, (([], 1),)), (6, ((((0, 6),), 1),)), (6, ((((1, 1), (0, 1)), 1),)), (4, ()),
    (6, ((0, 1),)), (6, (((), 1, 1),)), [[6], [[]], ([3],)], (6, (((), 1), [[], [1]])), RULE]

# For each kind of argument: a good one, its error, ones that are refused.
KINDS = {
    "rule": (RULE, errors.InvalidRule, NO_RULES),
    "live_rule": (RULE, errors.InvalidRule, NO_RULES + [(6, ()), (6, ((0, 2),)), (6, ((0, 3), (1, 3))), (2, ())]),
    "prime_rule": (OF_PRIME, errors.InvalidRule, NO_RULES + [(3, ()), (6, ((0, 1),)), (6, ()), (15, ((0, 1), (1, 1)))]),
    "program": (PROGRAM, errors.InvalidProgram, NO_PROGRAMS),
    "even_rule": ((6, ((-1, 2), (0, 1), (1, 2))), errors.InvalidRule, NO_RULES + [
        RULE, (6, ((1, 1),)), (6, ((0, 1), (1, 1))), (6, ((-1, 1), (1, 5))), (6, ((-2, 1), (0, 3), (1, 1)))]),
    "even_program": ((6, ((((-1, 2), (1, 2)), 3), (((0, 5),), 10 ** 30))), errors.InvalidProgram, NO_PROGRAMS + [
        PROGRAM, (6, ((((1, 1),), 0),)), (6, ((((0, 1),), 1), (((-1, 2), (1, 3)), 10 ** 30)))]),
    "row": (ROW, errors.InvalidRow, [
        None, [6, ()], (6, [(0, 1)]), (6, ((0, 6),)), (6, ((0, 0),)), (9, ()), (6, ((True, 1),)), ((6, ()),),
        (6, ((5, 1), (0, 1))), (6, (0, 5)), [[], []], {"a": 1}]),
    "round": (ROUND, errors.InvalidRound, NO_ROUNDS),
    "prime_round": ((3, (0, 2, 1)), errors.InvalidRound, NO_ROUNDS),
    "modulus": (6, errors.InvalidModulus, [0, 1, -1, -6, 4, 8, 9, 12, 16, 17, 21, 30, FAR, -FAR]),
    "times": (3, errors.InvalidNumber, [-1, 41, -40, 80, FAR, -FAR]),
    "prime_of": (3, errors.InvalidNumber, [0, 1, -2, -3, 4, 5, 6, 7, 11, 13, FAR]),
    "parts": (PARTS, errors.InvalidRule, [
        None, [], [()], [(), (), ()], ((), ()), [(), []], [((0, 2),), ()], [(), ((0, 3),)], [(), ((0, 0),)],
        [((0, True),), ()], [((1, 1), (0, 1)), ()], [((0, 1), (0, 1)), ()], [(), [[0, 1]]], [([0], [1]), ((0, 1),)],
        (6, ((0, 1),)), {0: [1]}]),
    "list": (LIST, errors.InvalidFactor, [
        None, [], [(2,)], [(2,), (3,), (5,)], ((2,), (3,)), [(3,), (2,)], [[2], [3]], [(2,), (2,)], [(True,), (3,)],
        [(2, 0), (3,)], [(2, 0, 1), (3,)], [(2, 0, 1, (), ()), (3,)], [(2, 0, 1, []), (3,)], [(2, 0, 0, ()), (3,)],
        [(2, 0, 2, ()), (3,)], [(2, 0, True, ()), (3,)], [(2, False, 1, ()), (3,)], [(2, None, 1, ()), (3,)],
        [(2,), (3, 0, 3, ())], [(2,), (3, 0, 1, (((1, 0, 2), 1),))], [(2,), (3, 0, 1, (((1, 1), 0),))],
        [(2,), (3, 0, 1, (((1, 1), -1),))], [(2,), (3, 0, 1, (((1, 1), True),))], [(2,), (3, 0, 1, (((1, 1),),))],
        [(2,), (3, 0, 1, (((1, 1), 1, 1),))], [(2,), (3, 0, 1, (([1, 1], 1),))], [(2,), (3, 0, 1, ([(1, 1), 1],))],
        [(2,), (3, 0, 1, (((1, 1), 1), ((1, 1), 1)))], [(2,), (3, 0, 1, (((1, 1), 1), ((1, 1), 2)))],
        [(2,), (3, 0, 1, (((1, 1), 2), ((1, 1), 1)))], [(2,), (3, 0, 1, (((2, 1), 1), ((1, 1), 1)))],
        [(2,), (3, 0, 1, (((1, 1), 1), ((1, 0, 1), 1)))], [(2,), (3, 0, 1, (((1, 2, 1), 1),))],
        [(2,), (3, 0, 1, (((0, 1), 1),))], [(2,), (3, 0, 1, (((1,), 1),))], [(2,), (3, 0, 1, ((1, 1), 1))],
        [(2, 0, 1, (((1, 0, 1), 1),)), (3,)], [(2,), (3, 0, 1, (((1, 2), 1),))], [(2,), (3, 0, 1, (((1, 3), 1),))]]),
    "prime": (3, errors.InvalidNumber, [0, 1, -1, -2, -3, 4, 6, 8, 9, 10, 14, 15, 17, 19, 23, FAR, -FAR]),
    "factor": ((1, 0, 1), errors.InvalidFactor, [
        None, (), (1,), (0, 1), (1, 2), (1, 2, 1), (1, 3), (3, 1), (-1, 1), [1, 1], (True, 1), (1, True), ((1, 1),),
        (1, 0, 1, 0), (1, [0], 1), [[1], [1]], 1, "11", {0: 1}]),
    "times_of": (10, errors.InvalidNumber, [-1, 11, 10 ** 30, FAR, -FAR]),
    "most_times": (10 ** 30, errors.InvalidNumber, [-1, 10 ** 30 + 1, FAR, -FAR]),
    "root_times": (1, errors.InvalidNumber, [0, -1, 41, 10 ** 30, FAR, -FAR]),
    "count": (20, errors.InvalidNumber, [0, 21, -1, -20, FAR, -FAR]),
    "times_back": (2, errors.InvalidNumber, [-1, 101, FAR, -FAR]),
    "times_dying": (2, errors.InvalidNumber, [0, -1, 21, 40, FAR, -FAR]),
    "values": ((0, 1, 2, 0), errors.InvalidCells, [
        None, [0, 1, 2, 0], (0, 1, 2), (0, 1, 2, 0, 0), (0, 1, 2, 3), (0, 1, 2, -1), (0, True, 2, 0), (0, [1], 2, 0),
        (), ((0, 1, 2, 0),), {0: 1}, "0120", [[0], [0]]]),
    "reach": (1, errors.InvalidNumber, [-1, 4, FAR, -FAR]),
    "looks": (LOOKS, errors.InvalidLooks, [
        None, [], list(LOOKS), LOOKS[0], (LOOKS,), LOOKS + (None,), ([(1, 0, 5), 2],), (([1, 0, 5], 2),),
        (((1, 0), 2),), (((1, 0, 5, 0), 2),), (((1, 0, 6), 2),), (((1, 0, -1), 2),), (((1, 0, 5), 6),),
        (((1, True, 5), 2),), (((1, 0, 5), False),), (((1, 0, 5),),), (((1, 0, 5), 2, 2),), {0: LOOKS}, [[[1]], ([2],)]]),
    "cells": ((2, 0, 5), errors.InvalidCells, [
        None, [2, 0, 5], (2, 0), (2, 0, 5, 0), (2, 0, 6), (-1, 0, 5), (2, False, 5), (2, (0,), [5]), (), "205"]),
    "rule_text": ("6: -1*2 1*3", errors.Unreadable, NO_TEXTS + [RULE, "6: 0=5", "6: 0*6", "6: 1*1 0*1"]),
    "row_text": ("6: 0=1 5=4", errors.Unreadable, NO_TEXTS + [ROW, "6: 0*5", "6: 0=0", "6: 0=1 0=1"]),
    "round_text": ("6: 0 5 3", errors.Unreadable, NO_TEXTS + [ROUND, "6: -", "6: 6", "6: -1", "6: 0 5 3 "]),
    "program_text": ("6: -1*2 1*3 ^ 3; - ^ 0", errors.Unreadable, NO_TEXTS + [
        PROGRAM, "6: 0*5", "6: - ^ -1", "6: 0*5 ^ 1;- ^ 0", "6: -; -"]),
    "place": (5, None, []),
    "many": (6, errors.InvalidNumber, [0, -1, -6, -FAR]),
    "kind": ("mirror", errors.InvalidWalls, [
        None, "", "Mirror", "noughts", b"nought", 0, True, ["nought"], ("nought",), {"nought": []}, [[], ([0],)]]),
    "factor_of": (1, errors.InvalidNumber, [-1, 6, -6, 7, FAR, -FAR]),
    "factor_of_prime": (1, errors.InvalidNumber, [-1, 3, -3, 4, FAR, -FAR]),
    "prime_modulus_rule": (OF_PRIME, errors.InvalidRule, NO_RULES + [
        (6, ((0, 1),)), (6, ()), (10, ()), (15, ((0, 1), (1, 1)))]),
    "led_rule": ((6, ((-1, 1), (1, 5))), errors.InvalidRule, NO_RULES),
    "two_values": ((0, 1), errors.InvalidCells, [
        None, [0, 1], (0,), (0, 1, 0), (0, 6), (-1, 0), (0, False), (0, [1]), (), ((0, 1),), {0: 1}, "01", [[0], [0]]]),
    "object": (None, None, []),
}

# For each function that refuses something: the kinds of its arguments, and which of them have to be of one modulus.
TAKEN = {
    rules.primes_of: (["modulus"], ()),
    rules.still: (["modulus"], ()),
    rules.plus: (["rule", "rule"], (0, 1)),
    rules.behind: (["rule", "rule"], (0, 1)),
    rules.power: (["rule", "times"], ()),
    rules.by_prime: (["rule", "prime_of"], ()),
    rules.put_together: (["modulus", "parts"], ()),
    rules.step: (["rule", "row"], (0, 1)),
    rules.round_step: (["rule", "round"], (0, 1)),
    rules.added: (["row", "row"], (0, 1)),
    factors.factored: (["rule"], ()),
    factors.of_factors: (["modulus", "list"], ()),
    factors.is_factor: (["prime", "object"], ()),
    factors.order: (["prime", "factor"], ()),
    factors.common: (["rule", "rule"], (0, 1)),
    programs.alike: (["program", "program"], (0, 1)),
    programs.parting: (["program", "program"], (0, 1)),
    programs.span: (["program"], ()),
    programs.total: (["program"], ()),
    programs.joined: (["program", "program"], (0, 1)),
    programs.as_rule: (["program"], ()),
    programs.power_of: (["program", "times_of"], ()),
    programs.undone: (["program"], ()),
    meets.meets: (["rule", "rule"], (0, 1)),
    meets.meets_at: (["rule", "rule", "most_times", "most_times"], (0, 1)),
    meets.meets_often: (["rule", "rule"], (0, 1)),
    meets.root: (["rule", "root_times"], ()),
    meets.greatest_root: (["rule"], ()),
    meets.comes_round: (["rule"], ()),
    farcells.cell: (["program", "row", "place"], (0, 1)),
    farcells.cells: (["program", "row", "place", "count"], (0, 1)),
    farcells.first_cell: (["program", "row"], (0, 1)),
    farcells.last_cell: (["program", "row"], (0, 1)),
    farcells.row_total: (["program", "row"], (0, 1)),
    farcells.parting_cell: (["program", "program", "row"], (0, 1, 2)),
    backward.ahead: (["live_rule", "row"], (0, 1)),
    backward.bar: (["live_rule", "row"], (0, 1)),
    backward.bars: (["live_rule", "row", "object"], (0, 1)),
    backward.steps_back: (["live_rule", "row"], (0, 1)),
    backward.row_back: (["live_rule", "row", "times_back"], (0, 1)),
    kernels.free_cells: (["prime_rule", "most_times"], ()),
    kernels.dying_cell: (["prime_rule", "times_dying", "values", "place"], ()),
    kernels.dying_round: (["prime_rule", "times_dying", "values"], ()),
    kernels.dies_in: (["prime_rule", "prime_round"], (0, 1)),
    kernels.both_die: (["prime_rule", "prime_rule"], (0, 1)),
    toldback.fitting: (["modulus", "reach", "looks"], ()),
    toldback.how_many: (["modulus", "reach", "looks"], ()),
    toldback.further_rules: (["modulus", "reach", "looks"], ()),
    toldback.further_hold: (["modulus", "reach", "looks", "object"], ()),
    toldback.refusal: (["modulus", "reach", "looks"], ()),
    toldback.refuses: (["modulus", "reach", "looks", "object"], ()),
    toldback.sure_value: (["modulus", "reach", "looks", "cells"], ()),
    toldback.more_looks: (["modulus", "reach", "looks"], ()),
    toldback.next_cells: (["modulus", "reach", "looks"], ()),
    toldback.wrong_looks: (["modulus", "reach", "looks"], ()),
    toldback.which_wrong: (["modulus", "reach", "looks"], ()),
    rounds.round_after: (["program", "round"], (0, 1)),
    rounds.rounds_ahead: (["rule", "round"], (0, 1)),
    rounds.round_bar: (["rule", "round"], (0, 1)),
    rounds.round_bars: (["rule", "round", "object"], (0, 1)),
    rounds.least_ahead: (["rule", "round"], (0, 1)),
    rounds.comes_again: (["rule", "round"], (0, 1)),
    rings.losing: (["rule"], ()),
    rings.loses: (["rule", "many"], ()),
    rings.nought_dims: (["rule", "many"], ()),
    rings.coming_dims: (["rule", "many"], ()),
    rings.longest_tail: (["rule", "many"], ()),
    rings.first_unlike_ring: (["rule", "rule"], (0, 1)),
    rings.ring_round: (["rule", "many"], ()),
    rings.rounds_of: (["rule", "many"], ()),
    walls.unfolded: (["round", "kind"], ()),
    walls.walled_step: (["even_rule", "round", "kind"], (0, 1)),
    walls.walled_after: (["even_program", "round", "kind"], (0, 1)),
    walls.walled_losing: (["even_rule", "kind"], ()),
    walls.walled_noughts: (["even_rule", "kind", "many"], ()),
    walls.walled_tail: (["even_rule", "kind", "many"], ()),
    keptsums.free_weights: (["led_rule", "factor_of"], ()),
    keptsums.weight: (["led_rule", "factor_of", "two_values", "place"], ()),
    keptsums.weighted: (["led_rule", "factor_of", "two_values", "row"], (0, 3)),
    keptsums.weights_round: (["led_rule", "factor_of", "two_values"], ()),
    keptsums.ring_weights: (["rule", "factor_of", "many"], ()),
    keptsums.weight_rings: (["rule", "factor_of"], ()),
    keptsums.all_round_weights: (["prime_modulus_rule", "factor_of_prime", "many"], ()),
    texts.show_rule: (["rule"], ()),
    texts.show_row: (["row"], ()),
    texts.show_round: (["round"], ()),
    texts.show_program: (["program"], ()),
    reading.read_rule: (["rule_text"], ()),
    reading.read_row: (["row_text"], ()),
    reading.read_round: (["round_text"], ()),
    reading.read_program: (["program_text"], ()),
}

# One value of each kind of which a modulus is a part.
OF_MODULUS = {
    "rule": lambda m: (m, ((-1, 1), (2, m - 1))), "live_rule": lambda m: (m, ((-1, 1), (2, m - 1))),
    "prime_rule": lambda m: (m, ((-1, 1), (2, m - 1))), "even_rule": lambda m: (m, ((-1, 1), (0, m - 1), (1, 1))),
    "led_rule": lambda m: (m, ((-1, 1), (1, m - 1))), "even_program": lambda m: (m, ((((0, m - 1),), 10 ** 30),)),
    "row": lambda m: (m, ((FAR, m - 1),)),
    "round": lambda m: (m, (0, 1)), "prime_round": lambda m: (m, (0, 1)),
    "program": lambda m: (m, ((((-1, 1), (2, m - 1)), 10 ** 30),))}
