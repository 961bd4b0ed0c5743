"""The names, arguments and constants of the interface, each defined in the file under which it is listed."""

import ast
import importlib
import unittest
from pathlib import Path

ROOT = Path(__file__).resolve().parent.parent
LISTED = {
    "askedapart.base.bits": """is_bits(value) are_rows(value) bits_sum(one,other) bits_product(one,other)
        summed(rows,pick) basis(rows) span_rank(rows) kernel(rows) solved(rows,goal) is_solved(rows,goal,value)
        solution_count(rows,goal) solutions(rows,goal) sum_or_test(rows,row) is_sum_or_test(rows,row,value)
        meet(rows,more) MOST_BITS=64 MOST_ROWS=64 MOST_SOLUTIONS=1024""",
    "askedapart.say.books": """Book(many,sayings) is_lot(book,value) sum_of(book,lot) does_cancel(book,lot)
        is_odd(book,lot) cancelling(book) sayings_with(book,unknown) pieces(book) is_paired(book)
        piece_book(book,piece) beside(one,other) with_bits(book,bits) turned(book,unknowns)
        MOST_UNKNOWNS=24 MOST_SAYINGS=16 MOST_MEMBERS=8""",
    "askedapart.say.signs": """are_right(book,value) signs_or_lot(book) is_signs_or_lot(book,value) sign_count(book)
        all_signs(book) lot_or_signs(book,wish) is_lot_or_signs(book,wish,value) told(book) false_lot(book,signs)
        signs_for(book,lot) is_signs_for(book,lot,value) fewest(book) fewest_signs(book) is_fewest_signs(book,value)
        MOST_SIGNS=1024 MOST_TRIED=12""",
    "askedapart.net.graphs": """Graph(many,lines) graph_of(book) book_of(graph,bits) lines_at(graph,knot) pieces_of(graph)
        is_way(graph,one,other,value) way_or_apart(graph,one,other) is_way_or_apart(graph,one,other,value) tree_of(graph)
        is_tree(graph,value) ring_of(graph,tree,line) rings_of(graph,tree,lines) is_even(graph,value) even_count(graph)
        two_or_cut(graph,one,other) is_two_or_cut(graph,one,other,value) MOST_KNOTS=16 MOST_LINES=24""",
    "askedapart.net.turns": """is_turning(graph,value) behind(graph,turning,line,direction) rounds(graph,turning)
        round_count(graph,turning) handles(graph,turning) is_drawn(graph,turning) with_line(graph,turning,spot,other)
        sides(graph,turning) border(graph,turning,lot) bordered(graph,turning,lines)
        is_bordered(graph,turning,lines,value)""",
    "askedapart.net.plane": """blocks(graph) is_circle(graph,value) fragments(graph,circle) conflicts(graph,circle)
        sides_or_odd(graph,circle) is_sides_or_odd(graph,circle,value) turning_or_bar(graph)
        is_turning_or_bar(graph,value) is_planar(graph)""",
    "askedapart.net.bars": """is_bar(graph,value) bar_lines(graph,bar) is_critical(graph,lines)
        critical_lines(graph,lines) bar_by_lines(graph,lines) are_clumps(graph,value) clumps_of(graph,bar)
        bar_by_clumps(graph,clumps) grown(graph,clumps)""",
    "askedapart.net.arcs": """are_pairs(graph,value) are_moves(graph,value) crossing_pairs(graph,order)
        turned_pairs(graph,pairs,moves) moves_between(graph,order,other) is_moves_between(graph,order,other,value)
        moves_or_table(graph,order) is_moves_or_table(graph,order,value) is_odd_table(graph,value)
        table_of_bar(graph,bar) move_count(graph)""",
    "askedapart.sign.operators": """is_operator(value) do_commute(one,other) bits_of(operator) times(one,other)
        product(one,other) product_of(row,indices) quarter(operator,by) led_or_unlike(row,others)
        is_led_or_unlike(row,others,value) MOST_LETTERS=12 MOST_OPERATORS=24 MOST_TURNS=200""",
    "askedapart.sign.tables": """is_table(many,value) rank(many,table) do_bundles_commute(many,table,bundle,further)
        couples_or_strings(many,table,number) is_couples_or_strings(many,table,number,value)
        led_table(many,table,change) change_to(many,table,other) is_change_to(many,table,other,value)
        string_count(many,table,number)""",
    "askedapart.sign.answers": """are_right_operators(book,value) table_of(book,operators) crossings(book,lot)
        is_right_table(book,value) table_count(book) operators_by(book,table) operators_or_bar(book)
        is_operators_or_bar(book,value)""",
    "askedapart.say.undoings": """row_behind(book,row,steps) sum_behind(book,steps) put_lot(book,steps)
        is_undoing(book,value) paper_of(book,steps) led_back(book,row,steps) is_led_back(book,row,steps,value)
        MOST_ROW=200 MOST_STEPS=4000""",
    "askedapart.main.rounds": """is_growth(book,piece,value) row_by(book,turning,piece,growth) left_of(row)
        undoing_by(book,turning,piece) is_undoing_by(book,turning,piece,value) turning_by(book,steps) MOST_IN_ROW=200""",
    "askedapart.main.lifts": """lifted(book,bar) is_lifted(book,bar,value) six_or_parting(graph)
        is_six_or_parting(graph,value) fewest_qubits(book) few_operators(book)
        NINE=('+XI','+IX','+XX','+IZ','+ZI','+ZZ','+XZ','+ZX','+YY')
        TEN=('+XII','+IXI','+IIX','+XXX','+IIZ','+IZI','+XZZ','+ZII','+ZXZ','+ZZX')""",
    "askedapart.main.answers": """kinds(book) answer(book) is_answer(book,value)
        turned_operators(book,unknowns,operators)""",
    "askedapart.main.lesser": """lesser(book,step) stays(book,step) book_behind(book,steps) led_up(book,steps,operators)
        core_kind(book) is_least(book) core_or_turning(book) is_core_or_turning(book,value)""",
    "askedapart.play.games": """questions(book) is_plan(book,value) lost(book,plan) plan_by(book,signs) fewest_lost(book)
        best_plan(book) is_best_plan(book,value) losing(book,question) is_losing(book,question,value)
        least_chance(book,mix) best_mix(book) is_best_mix(book,value) MOST_TRIED=12 MOST_PLANS=400""",
    "askedapart.play.pairs": """is_state(value) form(state) fixed_bit(state,operator) measured(state,operator,bit)
        outcomes(state,row) parting(one,other) is_parting(one,other,value) mirrored(operator) shared_pairs(number)
        pair_outcomes(row,others) MOST_PAIRS=6 MOST_OUTCOMES=4096""",
    "askedapart.play.sure": """are_players(book,value) can_come(book,players,saying,unknown)
        chance(book,players,saying,unknown,told) second_chance(book,players,unknown)
        win_chance(book,players,saying,unknown) all_chance(book,players) sure_players(book,operators)
        sure_or_lost(book,players) is_sure_or_lost(book,players,value)""",
    "askedapart.more.odds": """is_odd_book(value) are_numbers(book,value) are_right_shifts(book,value)
        is_shift(modulus,value) shift_product(modulus,one,other) shift_power(modulus,shift,times)
        do_shifts_commute(modulus,one,other) shift_number(modulus,shift) numbers_by(book,shifts)
        numbers_or_weights(book) is_numbers_or_weights(book,value) number_count(book) MODULI=(3,5,7,9)""",
    "askedapart.more.picks": """is_outcome(book,value) outcomes_of(book,saying) do_agree(book,one,other)
        signs_telling(book,outcomes) is_pick(book,value) pick_by(book,signs) pick_count(book) pick_or_lot(book)
        is_pick_or_lot(book,value) most_agreeing(book) is_most_agreeing(book,value) outcomes_by(book,operators,saying)
        do_bar(book,operators,one,other) both_chance(book,operators,one,other)""",
    "askedapart.text.texts": """book_text(book) read_book(text) graph_text(graph) read_graph(text)
        turning_text(graph,turning) read_turning(graph,text) signs_text(book,signs) read_signs(book,text)
        operators_text(book,operators) read_operators(book,text) steps_text(book,steps) read_steps(book,text)
        answer_text(book,value) read_answer(book,text) MOST_TEXT=200000""",
    "askedapart.bench.bench": """Bench(book) led_signs(book,deed,signs) led_operators(book,deed,operators)
        MOST_DEEDS=200""",
    "askedapart.judge.claims": """is_claim(value) opposite(claim) does_take(claim,value) settled(claim)
        led_paper(claim,value,word) MOST_CLAIMS=8""",
}
# The methods and properties of each class, all of them defined in the class itself.
METHODS = {
    "askedapart.say.books": {"Book": "many sayings __eq__ __str__"},
    "askedapart.net.graphs": {"Graph": "many lines __eq__ __str__"},
    "askedapart.bench.bench": {"Bench": "book deeds do undo again kinds answer __str__"},
}
OPPOSITES = dict(signs="lot", operators="barred", held="undone", planar="bar", even="odd", six="parted", core="flat",
                 led="unlike", numbers="weights", each="some")


def arguments(node):
    """The names of all parameters, of the __init__ for a class."""
    if isinstance(node, ast.ClassDef):
        made = [one for one in node.body if isinstance(one, ast.FunctionDef) and one.name == "__init__"]
        return ",".join(one.arg for one in made[0].args.args[1:])
    return ",".join(one.arg for one in node.args.args)


def written(module):
    """All that a file defines, written as it is listed."""
    tree = ast.parse((ROOT / (module.replace(".", "/") + ".py")).read_text())
    found = set()
    for node in tree.body:
        if isinstance(node, (ast.FunctionDef, ast.ClassDef)):
            found.add(f"{node.name}({arguments(node)})")
        elif isinstance(node, ast.Assign):
            found.add(f"{node.targets[0].id}={ast.unparse(node.value)}".replace(" ", ""))
    return found


class Interface(unittest.TestCase):
    def test_all_that_is_listed_is_defined_there(self):
        for module, listed in LISTED.items():
            self.assertEqual(set(listed.split()) - written(module), set(), module)

    def test_methods(self):
        for module, classes in METHODS.items():
            held = vars(importlib.import_module(module))
            for name, listed in classes.items():
                self.assertEqual(set(listed.split()) - set(vars(held[name])), set(), name)

    def test_opposites(self):
        held = importlib.import_module("askedapart.judge.claims").OPPOSITES
        self.assertEqual(held, {**OPPOSITES, **{other: word for word, other in OPPOSITES.items()}})

    def test_all_can_be_imported(self):
        for module, listed in LISTED.items():
            held = vars(importlib.import_module(module))
            for entry in listed.split():
                self.assertIn(entry.split("(")[0].split("=")[0], held)


if __name__ == "__main__":
    unittest.main()
