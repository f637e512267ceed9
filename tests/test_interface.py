"""The names, files and parameters of the interface."""

import importlib
import inspect
import unittest

FUNCTIONS = {
    "questions": "is_hand(thing) renamed(question,names)",
    "questiontexts": "question_text(question) question_fault(text) read_question(text) whole_text(text)",
    "positions": "is_position(question,thing) is_play(question,thing) set_at(question,position) is_won(question,play)"
    " decider(question,play) certain(question,position)",
    "policies": "is_policy(question,hand,thing) set_by(question,hand,policy,position) follows(question,hand,policy,position)"
    " plays_of(question,hand,policy) policies_part(question,hand,policy,other) bare_policy(question,hand,policy)"
    " thin_policy(question,hand,policy) joined_policy(question,hand,mark,policy,other)",
    "policyworths": "policy_worth(question,hand,policy,position) both_worth(question,ours,theirs,position)"
    " reply(question,hand,policy) beaten_play(question,hand,policy)",
    "worth": "worth_of(question,position) worths(question) right_truths(question,position) rest_of(question,position)"
    " rests(question,place)",
    "counting": "counted(question,position) best_policy(question,k)",
    "forced": "worth_through(question,position) done_there(question,position) two_there(question,position)",
    "numberrows": "is_row(question,thing) does_tell(question,row,position)",
    "numberpapers": "paper_fault(question,thing) is_paper(question,thing) telling(question,paper,position)",
    "rowmakers": "start_row(question,word,literals) next_row(question,paper,kind,place,how)",
    "papermerges": "merged(question,papers) hangs_on(question,paper,index) thinned(question,paper,kept) unswallowed(question,paper)",
    "readingoff": "best_row(question,paper,kind,position) told_at(question,paper,kind,position) read_move(question,paper,position)"
    " goes_by(question,paper,hand,play) read_policy(question,paper,hand)",
    "blundering": "blunders(question,paper,play) hints(question,paper,position)",
    "solving": "bounds_at(question,paper,position) solved(question,position) reached(question,position,number) border(question,depth)",
    "freerows": "free_fault(question,thing) found_free(question)",
    "freeplays": "first_truth(question,free,position) first_policy(question,free)",
    "freeplaces": "freed(question,paper,index) placed(question,free)",
    "surerows": "sure_fault(question,hand,policy,thing) sure_rows(question,hand,policy)",
    "trees": "is_tree(question,kind,thing) tree_state(question,kind,tree) tree_price(question,kind,prices,tree)",
    "cheapest": "cheapest_tree(question,kind,prices) cheapest_price(question,kind,prices)"
    " greatest_table(question,kind,prices,limit) table_fault(question,kind,prices,thing)",
    "operations": "keeps(operation,clause) unkept(operation,clause) classes_of(question)",
    "fewplays": "few_rows(question,operation) few_paper(question,operation) is_few(question,operation,thing)",
    "fewpolicies": "play_by(question,operation,few,truths) few_policy(question,operation,few)",
    "lostpapers": "lost_paper(question,operation) is_lost_paper(question,operation,thing)",
    "marksums": "sum_clauses(one) neat_sums(marks,sums) neat_lots(marks,sums) sums_value(marks,sums)",
    "sumplays": "sums_played(marks,sums) sums_lot(marks,sums) is_sums_lot(marks,sums,thing) answer_function(one)",
    "teamsums": "team_answers(team,sums) team_lot(team,sums) is_team_answers(team,sums,thing) is_team_lot(team,sums,thing)"
    " must_see(team,sums,mark) answers_count(team,sums)",
    "sumrounds": "sums_for_ever(game,sums)",
    "teams": "is_team_policy(team,thing) team_sets(team,policy,setting) team_fails(team,clauses,policy)",
    "copies": "copied(team,clauses,setting) copies_of(team) is_team_paper(team,clauses,thing) lot_of(paper) beats(team,clauses,lot)"
    " thin_lot(team,clauses,order)",
    "teamsolving": "team_solved(team,clauses) team_count(team,clauses) forced_copies(team,clauses) in_line(team,clauses) team_of(question)",
    "vectors": "vector_of(question) moved(question,vector) exchanged(question,place)",
    "earliness": "enough(question,number) too_early(question,number) later_worths(question) worth_moved(question,place)",
    "sightpapers": "sight_paper(question,number) sight_fault(question,number,thing)",
    "picks": "picked_question(question,family,pick) enough_picks(question,family,goal) short_picks(question,family,goal)"
    " barring_picks(question,family,goal) meeting_picks(picks,many) thinned_pick(question,family,goal,order)",
    "pickpapers": "picks_paper(question,family,goal) is_picks_paper(question,family,goal,thing)",
    "sights": "team_seeing(team,sights) least_sights(team,clauses)",
    "losses": "loss_of(question,prices,play) least_loss(question,prices,position) policy_loss(question,prices,hand,policy)"
    " loss_policy(question,prices,hand) spared(question,prices) given_up(question,prices)",
    "lossrows": "loss_fault(question,prices,thing)",
    "losspapers": "loss_paper(question,prices) loss_truth(question,prices,losses,kind,position)",
    "smallersteps": "steps_of(question) stepped(question,step) smaller(question) steps_fault(question,thing)",
    "ledback": "led_back(question,steps,hand,policy) plain_value(question) plain_policy(question,hand)",
    "games": "is_game(thing) unrolled(game,many) round_question(game,lot)",
    "forever": "is_kept(game,thing) kept_for_ever(game) lost_within(game) is_lost_game(game,thing) lost_papers(game)",
    "gamestates": "states_for(game,many) lot_at(game,states) kept_sides(game) played(game,policy,theirs)",
    "circuits": "is_circuit(thing) outs_at(circuit,filling,truths) parted_at(circuit,other)",
    "boxes": "is_filling(circuit,other,thing) filled(circuit,other) is_refusal(circuit,other,thing) refused(circuit,other)"
    " one_box(circuit,other)",
    "mending": "unmended(circuit,other,lot) least_mends(circuit,other)",
    "boxquestions": "box_team(circuit,other) in_order(circuit,other)",
    "rowtexts": "rows_text(paper) read_rows(text) rows_fault(text)",
    "policytexts": "policy_text(policy) read_policy_text(text) policy_fault(text)",
    "playtexts": "play_text(marks,position) read_play(marks,text) play_fault(marks,text) sums_text(sums) read_sums(text)"
    " sums_fault(text)",
    "states": "is_lost_state(question,state) is_won_state(question,state)",
}
CLASSES = {
    "questions": {"Question(marks,wishes,guards)": "marks() wishes() guards() __eq__(other)"},
    "teams": {"Team(theirs,ours)": "theirs() ours() __eq__(other)"},
    "desks": {
        "Desk(marks)": "lay(side,clause) take(tag) laid() as_question() keep(paper) kept() bounds(position) settle(position) undo()"
        " redo() copy() __eq__(other)"
    },
    "searches": {"Search(question,positions)": "go(steps) found() meets() is_done() copy() __eq__(other)"},
}


def described(function, skipped=0):
    """A function's name and parameters."""
    words = list(inspect.signature(function).parameters)[skipped:]
    return function.__name__ + "(" + ",".join(words) + ")"


class InterfaceTest(unittest.TestCase):
    def test_functions(self):
        for file, listed in FUNCTIONS.items():
            module = importlib.import_module("marksinturn." + file)
            for one in listed.split():
                function = getattr(module, one.split("(")[0])
                self.assertEqual(described(function), one)
                self.assertEqual(function.__module__, module.__name__)

    def test_classes(self):
        for file, classes in CLASSES.items():
            module = importlib.import_module("marksinturn." + file)
            for head, methods in classes.items():
                made = getattr(module, head.split("(")[0])
                self.assertEqual(made.__module__, module.__name__)
                self.assertEqual(made.__name__ + described(made.__init__, 1)[len("__init__"):], head)
                for method in methods.split():
                    self.assertEqual(described(vars(made)[method.split("(")[0]], 1), method)


if __name__ == "__main__":
    unittest.main()
