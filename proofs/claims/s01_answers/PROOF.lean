import PyProof.Rows.All
import Wide.All
import OpenK.AllK
import Wide.FinOn
import Open.SpecLaws
import KE.OsHead
import KE.OsGo
import HandS.ForSpec
import HandS.ForMost
import HandS.Evl
import HandS.Steps
import HandS.Walk
import PySem.Challenge.RW_whoisthere_s01_answers
set_option Elab.async false
set_option maxRecDepth 100000
set_option maxHeartbeats 2000000
namespace Wt
open PySem PySem.Spec PyProof.Rows L2
def top (i : Nat) : Stmt := PySem.Challenge.pw_whoisthere_s01_answers.main.body.getD i (.Pass ⟨0, 0, 0, 0⟩)
abbrev s_counts_for_more : Stmt := top 30
theorem sc_counts_for_more : FnScope ["fact", "other"] ["fact", "other"] (defScope s_counts_for_more) := ⟨rfl, rfl, rfl, by decide +kernel, rfl, by decide +kernel, by decide +kernel⟩
abbrev s_one_behind_another : Stmt := top 31
theorem sc_one_behind_another : FnScope ["parts", "numbers", "part"] ["parts"] (defScope s_one_behind_another) := ⟨rfl, rfl, rfl, by decide +kernel, rfl, by decide +kernel, by decide +kernel⟩
abbrev s_Letter_init : Stmt := inClass (top 32) 0
theorem sc_Letter_init : FnScope ["self", "kind", "to", "sender", "number", "whom", "facts"] ["self", "kind", "to", "sender", "number", "whom", "facts"] (defScope s_Letter_init) := ⟨rfl, rfl, rfl, by decide +kernel, rfl, by decide +kernel, by decide +kernel⟩
abbrev s_Letter_numbers : Stmt := inClass (top 32) 1
theorem sc_Letter_numbers : FnScope ["self"] ["self"] (defScope s_Letter_numbers) := ⟨rfl, rfl, rfl, by decide +kernel, rfl, by decide +kernel, by decide +kernel⟩
abbrev s_Asking_init : Stmt := inClass (top 33) 0
theorem sc_Asking_init : FnScope ["self", "whom", "number", "since"] ["self", "whom", "number", "since"] (defScope s_Asking_init) := ⟨rfl, rfl, rfl, by decide +kernel, rfl, by decide +kernel, by decide +kernel⟩
abbrev s_Asking_numbers : Stmt := inClass (top 33) 1
theorem sc_Asking_numbers : FnScope ["self"] ["self"] (defScope s_Asking_numbers) := ⟨rfl, rfl, rfl, by decide +kernel, rfl, by decide +kernel, by decide +kernel⟩
abbrev s_Node_init : Stmt := inClass (top 34) 0
theorem sc_Node_init : FnScope ["self", "me", "count"] ["self", "me", "count"] (defScope s_Node_init) := ⟨rfl, rfl, rfl, by decide +kernel, rfl, by decide +kernel, by decide +kernel⟩
abbrev s_Node_forget : Stmt := inClass (top 34) 1
theorem sc_Node_forget : FnScope ["self", "count", "k"] ["self", "count"] (defScope s_Node_forget) := ⟨rfl, rfl, rfl, by decide +kernel, rfl, by decide +kernel, by decide +kernel⟩
abbrev s_Node_begin_anew : Stmt := inClass (top 34) 2
theorem sc_Node_begin_anew : FnScope ["self"] ["self"] (defScope s_Node_begin_anew) := ⟨rfl, rfl, rfl, by decide +kernel, rfl, by decide +kernel, by decide +kernel⟩
abbrev s_Node_has_passed : Stmt := inClass (top 34) 3
theorem sc_Node_has_passed : FnScope ["self", "then", "much"] ["self", "then", "much"] (defScope s_Node_has_passed) := ⟨rfl, rfl, rfl, by decide +kernel, rfl, by decide +kernel, by decide +kernel⟩
abbrev s_Node_learn : Stmt := inClass (top 34) 4
theorem sc_Node_learn : FnScope ["self", "whom", "number", "how"] ["self", "whom", "number", "how"] (defScope s_Node_learn) := ⟨rfl, rfl, rfl, by decide +kernel, rfl, by decide +kernel, by decide +kernel⟩
abbrev s_Node_hear : Stmt := inClass (top 34) 5
theorem sc_Node_hear : FnScope ["self", "facts", "whom", "fact"] ["self", "facts"] (defScope s_Node_hear) := ⟨rfl, rfl, rfl, by decide +kernel, rfl, by decide +kernel, by decide +kernel⟩
abbrev s_Node_hear_of_itself : Stmt := inClass (top 34) 6
theorem sc_Node_hear_of_itself : FnScope ["self", "fact"] ["self", "fact"] (defScope s_Node_hear_of_itself) := ⟨rfl, rfl, rfl, by decide +kernel, rfl, by decide +kernel, by decide +kernel⟩
abbrev s_Node_give_up : Stmt := inClass (top 34) 7
theorem sc_Node_give_up : FnScope ["self", "patience", "whom", "fact"] ["self", "patience"] (defScope s_Node_give_up) := ⟨rfl, rfl, rfl, by decide +kernel, rfl, by decide +kernel, by decide +kernel⟩
abbrev s_Node_numbers : Stmt := inClass (top 34) 8
theorem sc_Node_numbers : FnScope ["self", "told", "number", "errand"] ["self"] (defScope s_Node_numbers) := ⟨rfl, rfl, rfl, by decide +kernel, rfl, by decide +kernel, by decide +kernel⟩
abbrev s_Node_seen : Stmt := inClass (top 34) 9
theorem sc_Node_seen : FnScope ["self", "whom"] ["self"] (defScope s_Node_seen) := ⟨rfl, rfl, rfl, by decide +kernel, rfl, by decide +kernel, by decide +kernel⟩
abbrev s_World_init : Stmt := inClass (top 35) 0
theorem sc_World_init : FnScope ["self", "count", "wait", "patience", "k"] ["self", "count", "wait", "patience"] (defScope s_World_init) := ⟨rfl, rfl, rfl, by decide +kernel, rfl, by decide +kernel, by decide +kernel⟩
abbrev s_World_has_node : Stmt := inClass (top 35) 1
theorem sc_World_has_node : FnScope ["self", "k"] ["self", "k"] (defScope s_World_has_node) := ⟨rfl, rfl, rfl, by decide +kernel, rfl, by decide +kernel, by decide +kernel⟩
abbrev s_World_has_letter : Stmt := inClass (top 35) 2
theorem sc_World_has_letter : FnScope ["self", "k"] ["self", "k"] (defScope s_World_has_letter) := ⟨rfl, rfl, rfl, by decide +kernel, rfl, by decide +kernel, by decide +kernel⟩
abbrev s_World_send : Stmt := inClass (top 35) 3
theorem sc_World_send : FnScope ["self", "node", "kind", "to", "number", "whom"] ["self", "node", "kind", "to", "number", "whom"] (defScope s_World_send) := ⟨rfl, rfl, rfl, by decide +kernel, rfl, by decide +kernel, by decide +kernel⟩
abbrev s_World_probe : Stmt := inClass (top 35) 4
theorem sc_World_probe : FnScope ["self", "k", "whom", "node"] ["self", "k", "whom"] (defScope s_World_probe) := ⟨rfl, rfl, rfl, by decide +kernel, rfl, by decide +kernel, by decide +kernel⟩
abbrev s_World_tick : Stmt := inClass (top 35) 5
theorem sc_World_tick : FnScope ["self", "k", "node"] ["self", "k"] (defScope s_World_tick) := ⟨rfl, rfl, rfl, by decide +kernel, rfl, by decide +kernel, by decide +kernel⟩
abbrev s_World_wait_on : Stmt := inClass (top 35) 6
theorem sc_World_wait_on : FnScope ["self", "node", "asking"] ["self", "node"] (defScope s_World_wait_on) := ⟨rfl, rfl, rfl, by decide +kernel, rfl, by decide +kernel, by decide +kernel⟩
abbrev s_World_call_for_help : Stmt := inClass (top 35) 7
theorem sc_World_call_for_help : FnScope ["self", "node", "asking", "k"] ["self", "node", "asking"] (defScope s_World_call_for_help) := ⟨rfl, rfl, rfl, by decide +kernel, rfl, by decide +kernel, by decide +kernel⟩
abbrev s_World_blame : Stmt := inClass (top 35) 8
theorem sc_World_blame : FnScope ["self", "node", "whom", "fact"] ["self", "node", "whom"] (defScope s_World_blame) := ⟨rfl, rfl, rfl, by decide +kernel, rfl, by decide +kernel, by decide +kernel⟩
abbrev s_World_take : Stmt := inClass (top 35) 9
theorem sc_World_take : FnScope ["self", "k", "letter"] ["self", "k"] (defScope s_World_take) := ⟨rfl, rfl, rfl, by decide +kernel, rfl, by decide +kernel, by decide +kernel⟩
abbrev s_World_keep : Stmt := inClass (top 35) 10
theorem sc_World_keep : FnScope ["self", "k"] ["self", "k"] (defScope s_World_keep) := ⟨rfl, rfl, rfl, by decide +kernel, rfl, by decide +kernel, by decide +kernel⟩
abbrev s_World_lose : Stmt := inClass (top 35) 11
theorem sc_World_lose : FnScope ["self", "k"] ["self", "k"] (defScope s_World_lose) := ⟨rfl, rfl, rfl, by decide +kernel, rfl, by decide +kernel, by decide +kernel⟩
abbrev s_World_hand_over : Stmt := inClass (top 35) 12
theorem sc_World_hand_over : FnScope ["self", "letter", "node"] ["self", "letter"] (defScope s_World_hand_over) := ⟨rfl, rfl, rfl, by decide +kernel, rfl, by decide +kernel, by decide +kernel⟩
abbrev s_World_get_here : Stmt := inClass (top 35) 13
theorem sc_World_get_here : FnScope ["self", "node", "number", "errand"] ["self", "node", "number"] (defScope s_World_get_here) := ⟨rfl, rfl, rfl, by decide +kernel, rfl, by decide +kernel, by decide +kernel⟩
abbrev s_World_ask_for_another : Stmt := inClass (top 35) 14
theorem sc_World_ask_for_another : FnScope ["self", "node", "letter"] ["self", "node", "letter"] (defScope s_World_ask_for_another) := ⟨rfl, rfl, rfl, by decide +kernel, rfl, by decide +kernel, by decide +kernel⟩
abbrev s_World_stop_node : Stmt := inClass (top 35) 15
theorem sc_World_stop_node : FnScope ["self", "k", "node"] ["self", "k"] (defScope s_World_stop_node) := ⟨rfl, rfl, rfl, by decide +kernel, rfl, by decide +kernel, by decide +kernel⟩
abbrev s_World_start_node : Stmt := inClass (top 35) 16
theorem sc_World_start_node : FnScope ["self", "k", "node"] ["self", "k"] (defScope s_World_start_node) := ⟨rfl, rfl, rfl, by decide +kernel, rfl, by decide +kernel, by decide +kernel⟩
abbrev s_World_tell_letters : Stmt := inClass (top 35) 17
theorem sc_World_tell_letters : FnScope ["self", "letter"] ["self"] (defScope s_World_tell_letters) := ⟨rfl, rfl, rfl, by decide +kernel, rfl, by decide +kernel, by decide +kernel⟩
abbrev s_World_tell_node : Stmt := inClass (top 35) 18
theorem sc_World_tell_node : FnScope ["self", "k"] ["self", "k"] (defScope s_World_tell_node) := ⟨rfl, rfl, rfl, by decide +kernel, rfl, by decide +kernel, by decide +kernel⟩
abbrev s_World_tell_seen : Stmt := inClass (top 35) 19
theorem sc_World_tell_seen : FnScope ["self", "k", "seen"] ["self", "k"] (defScope s_World_tell_seen) := ⟨rfl, rfl, rfl, by decide +kernel, rfl, by decide +kernel, by decide +kernel⟩
abbrev s_World_tell_blames : Stmt := inClass (top 35) 20
theorem sc_World_tell_blames : FnScope ["self"] ["self"] (defScope s_World_tell_blames) := ⟨rfl, rfl, rfl, by decide +kernel, rfl, by decide +kernel, by decide +kernel⟩
abbrev s_change : Stmt := top 36
theorem sc_change : FnScope ["world", "call", "told"] ["world", "call", "told"] (defScope s_change) := ⟨rfl, rfl, rfl, by decide +kernel, rfl, by decide +kernel, by decide +kernel⟩
abbrev s_tell : Stmt := top 37
theorem sc_tell : FnScope ["world", "call", "told"] ["world", "call", "told"] (defScope s_tell) := ⟨rfl, rfl, rfl, by decide +kernel, rfl, by decide +kernel, by decide +kernel⟩
abbrev s_Line_init : Stmt := inClass (top 38) 0
theorem sc_Line_init : FnScope ["self"] ["self"] (defScope s_Line_init) := ⟨rfl, rfl, rfl, by decide +kernel, rfl, by decide +kernel, by decide +kernel⟩
abbrev s_Line_begin : Stmt := inClass (top 38) 1
theorem sc_Line_begin : FnScope ["self", "count", "wait", "patience"] ["self", "count", "wait", "patience"] (defScope s_Line_begin) := ⟨rfl, rfl, rfl, by decide +kernel, rfl, by decide +kernel, by decide +kernel⟩
abbrev s_Line_answer : Stmt := inClass (top 38) 2
theorem sc_Line_answer : FnScope ["self", "call", "told"] ["self", "call", "told"] (defScope s_Line_answer) := ⟨rfl, rfl, rfl, by decide +kernel, rfl, by decide +kernel, by decide +kernel⟩
abbrev s_answers : Stmt := top 39
theorem sc_answers : FnScope ["calls", "line", "given", "at", "call", "behind", "answer"] ["calls"] (defScope s_answers) := ⟨rfl, rfl, rfl, by decide +kernel, rfl, by decide +kernel, by decide +kernel⟩
def qAdd : R2 := rI0 fun i j => .int (i + j)
def qSub : R2 := rI0 fun i j => .int (i - j)
def qMul : R2 := rI CMul fun i j => .int (i * j)
def qLt : R2 := rI0 fun i j => .bl (decide (i < j))
def qLe : R2 := rI0 fun i j => .bl (decide (i ≤ j))
def qGt : R2 := rI0 fun i j => .bl (decide (j < i))
def qGe : R2 := rI0 fun i j => .bl (decide (j ≤ i))
def rLenD : List V → Hp → VK → Prop := fun xs H Q => ∃ a kvs, xs = [V.ref a] ∧ H a = some (.dK kvs) ∧ Q (.int kvs.length) H
/-! ### list.extend of a list or a tuple -/
section
open PySem
theorem ext_tup {a b : Addr} {xs ys : Array Value} {i j : Nat} {od : Option Addr} {sl : Array (Option Value)} (few : (!xs.isEmpty && Builtin.List.listTooLong (xs.size + ys.size)) = false) (z1 : xs.size ≤ sizeLine) (z2 : (xs ++ ys).size ≤ sizeLine + 1) :
    Meets (Builtin.«list.extend» ⟨[.ref a, .ref b], []⟩) fun _ R u => u.heap.get? a = some ⟨.type "list", none, .seq xs i, #[]⟩ ∧ u.heap.get? b = some ⟨.type "tuple", od, .seq ys j, sl⟩ ∧
      R (.ok (.ret Value.none)) { u with heap := u.heap.update a (Obj.mapSeq fun c => c ++ ys), toks := u.toks } := by
  refine .of_wp ?_
  intro pr wo ar R u ⟨ha, hb, hR⟩
  have no : ¬ (!xs.isEmpty && Builtin.List.listTooLong (xs.size + ys.size)) = true := Bool.eq_false_iff.mp few
  obtain ⟨h1, h2, h3, h4, h5⟩ := u
  have t1 := AutoSeq1.sub_tuple_tuple
  have t2 := AutoSeq1.sub_list_list
  have t3 := AutoSeq1.sub_tuple_list
  have t4 := AutoSeq1.sub_list_tuple
  wp_walk using (wpAny_updateSeq ha rfl (hz := z1) (_hz' := z2)), AutoSeq1.wpAny_loadPart' ha, AutoSeq1.wpAny_loadPart' hb
  exact ⟨_, rfl, hR⟩
end
def rExtendS : V → List V → Hp → VK → Prop := fun x us H Q => ∃ (p b : Addr) (xs zs : List V), x = .ref p ∧ us = [.ref b] ∧ H p = some (.lst xs) ∧ (H b = some (.lst zs) ∨ H b = some (.tup zs)) ∧ xs.length + zs.length ≤ sizeLine ∧ Q .non (upd H p (.lst (xs ++ zs)))
theorem mt_extendS {X : Cx} : MtM X "list.extend" rExtendS := by
  rintro pn sh sl H x as v us Q hI hv hs ⟨p, b, xs, zs, rfl, rfl, hp, hb, hn, hq⟩
  rcases hb with hb | hb
  · exact mt_extend pn sh sl H _ _ v us Q hI hv hs ⟨p, b, xs, zs, rfl, rfl, hp, hb, hn, hq⟩
  cases hv
  obtain ⟨u, rfl, hu⟩ := hs.one
  cases hu
  obtain ⟨_, ps, k, rp, lp, ep⟩ := hI.lstM hp
  obtain ⟨_, bs, rb, ⟨⟨oc, od, dt, so⟩, eb, hc, j, hd⟩⟩ := hI.hok b _ hb
  have hc : oc = .type "tuple" := hc
  have hd : dt = .seq bs.toArray j := hd
  subst hc hd
  have lb := rb.length
  have zz : ps.length + bs.length ≤ sizeLine := by omega
  have z2 : (ps.toArray ++ bs.toArray).size ≤ sizeLine + 1 := by
    rw [Array.size_append]
    exact Nat.le_succ_of_le zz
  have few : (!ps.toArray.isEmpty && Builtin.List.listTooLong (ps.toArray.size + bs.toArray.size)) = false := (congrArg (_ && ·) (notLongL zz)).trans (Bool.and_false _)
  refine call_meets F.slot_list_extend ⟨_, ep, rfl⟩ F.entry_list_extend (F.args_list_extend_2 _ _) (ext_tup few (Nat.le_trans (Nat.le_add_right _ _) zz) z2) ⟨ep, eb, .non, _, hI.lset (its' := ps ++ bs) hp ep (by simp) (rp.append rb) ?_, rfl, hq⟩
  exact Nat.le_trans (Nat.le_of_eq List.length_append) hn

structure Pg (K : PySem.W.Frag) (mg : Str → Option Value) where
  CLetter : Addr
  CAsking : Addr
  CNode : Addr
  CWorld : Addr
  CLine : Addr
  a_COUNTS : Addr
  f_counts_for_more : Addr
  fd_counts_for_more : FuncData
  f_one_behind_another : Addr
  fd_one_behind_another : FuncData
  f_Letter_init : Addr
  fd_Letter_init : FuncData
  f_Letter_numbers : Addr
  fd_Letter_numbers : FuncData
  f_Asking_init : Addr
  fd_Asking_init : FuncData
  f_Asking_numbers : Addr
  fd_Asking_numbers : FuncData
  f_Node_init : Addr
  fd_Node_init : FuncData
  f_Node_forget : Addr
  fd_Node_forget : FuncData
  f_Node_begin_anew : Addr
  fd_Node_begin_anew : FuncData
  f_Node_has_passed : Addr
  fd_Node_has_passed : FuncData
  f_Node_learn : Addr
  fd_Node_learn : FuncData
  f_Node_hear : Addr
  fd_Node_hear : FuncData
  f_Node_hear_of_itself : Addr
  fd_Node_hear_of_itself : FuncData
  f_Node_give_up : Addr
  fd_Node_give_up : FuncData
  f_Node_numbers : Addr
  fd_Node_numbers : FuncData
  f_Node_seen : Addr
  fd_Node_seen : FuncData
  f_World_init : Addr
  fd_World_init : FuncData
  f_World_has_node : Addr
  fd_World_has_node : FuncData
  f_World_has_letter : Addr
  fd_World_has_letter : FuncData
  f_World_send : Addr
  fd_World_send : FuncData
  f_World_probe : Addr
  fd_World_probe : FuncData
  f_World_tick : Addr
  fd_World_tick : FuncData
  f_World_wait_on : Addr
  fd_World_wait_on : FuncData
  f_World_call_for_help : Addr
  fd_World_call_for_help : FuncData
  f_World_blame : Addr
  fd_World_blame : FuncData
  f_World_take : Addr
  fd_World_take : FuncData
  f_World_keep : Addr
  fd_World_keep : FuncData
  f_World_lose : Addr
  fd_World_lose : FuncData
  f_World_hand_over : Addr
  fd_World_hand_over : FuncData
  f_World_get_here : Addr
  fd_World_get_here : FuncData
  f_World_ask_for_another : Addr
  fd_World_ask_for_another : FuncData
  f_World_stop_node : Addr
  fd_World_stop_node : FuncData
  f_World_start_node : Addr
  fd_World_start_node : FuncData
  f_World_tell_letters : Addr
  fd_World_tell_letters : FuncData
  f_World_tell_node : Addr
  fd_World_tell_node : FuncData
  f_World_tell_seen : Addr
  fd_World_tell_seen : FuncData
  f_World_tell_blames : Addr
  fd_World_tell_blames : FuncData
  f_change : Addr
  fd_change : FuncData
  f_tell : Addr
  fd_tell : FuncData
  f_Line_init : Addr
  fd_Line_init : FuncData
  f_Line_begin : Addr
  fd_Line_begin : FuncData
  f_Line_answer : Addr
  fd_Line_answer : FuncData
  f_answers : Addr
  fd_answers : FuncData
  t_BEGIN : Tok
  t_PROBE : Tok
  t_TICK : Tok
  t_TAKE : Tok
  t_KEEP : Tok
  t_LOSE : Tok
  t_STOP : Tok
  t_LETTERS : Tok
  t_NODE : Tok
  t_SEES : Tok
  t_REFUSED : Tok
  t_IS_SO_ALREADY : Tok
  t_HAS_STOPPED : Tok
  t_NO_WORLD : Tok
  t_ASK : Tok
  t_HERE : Tok
  t_HELP : Tok
  t_THERE : Tok
  t_SUSPECTED : Tok
  t_GONE : Tok
  t_NO_USE : Tok
  t_ANSWERED : Tok
  t_ASKING_OVER : Tok
  t_TOLD_ON : Tok
  t_ANOTHER_ASKED : Tok
  t_BUT_HEARD : Tok
  t_ROOM : Tok
  t_NOT_TOLD : Tok
  g_BEGIN : mg "BEGIN" = some (.int 0 t_BEGIN)
  g_PROBE : mg "PROBE" = some (.int 1 t_PROBE)
  g_TICK : mg "TICK" = some (.int 2 t_TICK)
  g_TAKE : mg "TAKE" = some (.int 3 t_TAKE)
  g_KEEP : mg "KEEP" = some (.int 4 t_KEEP)
  g_LOSE : mg "LOSE" = some (.int 5 t_LOSE)
  g_STOP : mg "STOP" = some (.int 6 t_STOP)
  g_LETTERS : mg "LETTERS" = some (.int 8 t_LETTERS)
  g_NODE : mg "NODE" = some (.int 9 t_NODE)
  g_SEES : mg "SEES" = some (.int 10 t_SEES)
  g_REFUSED : mg "REFUSED" = some (.int (-1) t_REFUSED)
  g_IS_SO_ALREADY : mg "IS_SO_ALREADY" = some (.int (-2) t_IS_SO_ALREADY)
  g_HAS_STOPPED : mg "HAS_STOPPED" = some (.int (-3) t_HAS_STOPPED)
  g_NO_WORLD : mg "NO_WORLD" = some (.int (-9) t_NO_WORLD)
  g_ASK : mg "ASK" = some (.int 0 t_ASK)
  g_HERE : mg "HERE" = some (.int 1 t_HERE)
  g_HELP : mg "HELP" = some (.int 2 t_HELP)
  g_THERE : mg "THERE" = some (.int 0 t_THERE)
  g_SUSPECTED : mg "SUSPECTED" = some (.int 1 t_SUSPECTED)
  g_GONE : mg "GONE" = some (.int 2 t_GONE)
  g_NO_USE : mg "NO_USE" = some (.int 0 t_NO_USE)
  g_ANSWERED : mg "ANSWERED" = some (.int 1 t_ANSWERED)
  g_ASKING_OVER : mg "ASKING_OVER" = some (.int 2 t_ASKING_OVER)
  g_TOLD_ON : mg "TOLD_ON" = some (.int 3 t_TOLD_ON)
  g_ANOTHER_ASKED : mg "ANOTHER_ASKED" = some (.int 4 t_ANOTHER_ASKED)
  g_BUT_HEARD : mg "BUT_HEARD" = some (.int 5 t_BUT_HEARD)
  g_ROOM : mg "ROOM" = some (.int 100 t_ROOM)
  g_NOT_TOLD : mg "NOT_TOLD" = some (.int 0 t_NOT_TOLD)
  g_COUNTS : mg "COUNTS" = some (.ref a_COUNTS)
  q_COUNTS : ∀ H : Hp, SqT K H a_COUNTS [.int 3, .int 2, .int 1, .int 1, .int 1, .int 1, .int 1, .int 1, .int 0, .int 1, .int 1, .int 0]
  b_len : mg "len" = none
  b_list : mg "list" = none
  b_range : mg "range" = none
  cl_Letter : Cls K CLetter
  g_Letter : mg "Letter" = some (.ref CLetter)
  mk_Letter : Mk K CLetter f_Letter_init
  n_Letter_kind : NoAttr K CLetter "kind"
  n_Letter_to : NoAttr K CLetter "to"
  n_Letter_sender : NoAttr K CLetter "sender"
  n_Letter_number : NoAttr K CLetter "number"
  n_Letter_whom : NoAttr K CLetter "whom"
  n_Letter_facts : NoAttr K CLetter "facts"
  cl_Asking : Cls K CAsking
  g_Asking : mg "Asking" = some (.ref CAsking)
  mk_Asking : Mk K CAsking f_Asking_init
  n_Asking_whom : NoAttr K CAsking "whom"
  n_Asking_number : NoAttr K CAsking "number"
  n_Asking_since : NoAttr K CAsking "since"
  n_Asking_helped : NoAttr K CAsking "helped"
  cl_Node : Cls K CNode
  g_Node : mg "Node" = some (.ref CNode)
  mk_Node : Mk K CNode f_Node_init
  n_Node_me : NoAttr K CNode "me"
  n_Node_runs : NoAttr K CNode "runs"
  n_Node_own : NoAttr K CNode "own"
  n_Node_asked : NoAttr K CNode "asked"
  n_Node_clock : NoAttr K CNode "clock"
  n_Node_facts : NoAttr K CNode "facts"
  n_Node_since : NoAttr K CNode "since"
  n_Node_asking : NoAttr K CNode "asking"
  n_Node_for_others : NoAttr K CNode "for_others"
  cl_World : Cls K CWorld
  g_World : mg "World" = some (.ref CWorld)
  mk_World : Mk K CWorld f_World_init
  n_World_wait : NoAttr K CWorld "wait"
  n_World_patience : NoAttr K CWorld "patience"
  n_World_nodes : NoAttr K CWorld "nodes"
  n_World_row : NoAttr K CWorld "row"
  n_World_blamed : NoAttr K CWorld "blamed"
  cl_Line : Cls K CLine
  g_Line : mg "Line" = some (.ref CLine)
  mk_Line : Mk K CLine f_Line_init
  n_Line_world : NoAttr K CLine "world"
  F_counts_for_more : Fun K "counts_for_more" "counts_for_more" s_counts_for_more f_counts_for_more fd_counts_for_more
  b_counts_for_more : Binds K fd_counts_for_more ["fact", "other"] []
  g_counts_for_more : mg "counts_for_more" = some (.ref f_counts_for_more)
  k_counts_for_more : PySem.W.keepIn K (.ref f_counts_for_more) = true
  F_one_behind_another : Fun K "one_behind_another" "one_behind_another" s_one_behind_another f_one_behind_another fd_one_behind_another
  b_one_behind_another : Binds K fd_one_behind_another ["parts"] []
  g_one_behind_another : mg "one_behind_another" = some (.ref f_one_behind_another)
  k_one_behind_another : PySem.W.keepIn K (.ref f_one_behind_another) = true
  F_Letter_init : Fun K "__init__" "Letter.__init__" s_Letter_init f_Letter_init fd_Letter_init
  b_Letter_init : Binds K fd_Letter_init ["self", "kind", "to", "sender", "number", "whom", "facts"] []
  F_Letter_numbers : Fun K "numbers" "Letter.numbers" s_Letter_numbers f_Letter_numbers fd_Letter_numbers
  b_Letter_numbers : Binds K fd_Letter_numbers ["self"] []
  m_Letter_numbers : Meth K CLetter "numbers" f_Letter_numbers
  F_Asking_init : Fun K "__init__" "Asking.__init__" s_Asking_init f_Asking_init fd_Asking_init
  b_Asking_init : Binds K fd_Asking_init ["self", "whom", "number", "since"] []
  F_Asking_numbers : Fun K "numbers" "Asking.numbers" s_Asking_numbers f_Asking_numbers fd_Asking_numbers
  b_Asking_numbers : Binds K fd_Asking_numbers ["self"] []
  m_Asking_numbers : Meth K CAsking "numbers" f_Asking_numbers
  F_Node_init : Fun K "__init__" "Node.__init__" s_Node_init f_Node_init fd_Node_init
  b_Node_init : Binds K fd_Node_init ["self", "me", "count"] []
  F_Node_forget : Fun K "forget" "Node.forget" s_Node_forget f_Node_forget fd_Node_forget
  b_Node_forget : Binds K fd_Node_forget ["self", "count"] []
  m_Node_forget : Meth K CNode "forget" f_Node_forget
  F_Node_begin_anew : Fun K "begin_anew" "Node.begin_anew" s_Node_begin_anew f_Node_begin_anew fd_Node_begin_anew
  b_Node_begin_anew : Binds K fd_Node_begin_anew ["self"] []
  m_Node_begin_anew : Meth K CNode "begin_anew" f_Node_begin_anew
  F_Node_has_passed : Fun K "has_passed" "Node.has_passed" s_Node_has_passed f_Node_has_passed fd_Node_has_passed
  b_Node_has_passed : Binds K fd_Node_has_passed ["self", "then", "much"] []
  m_Node_has_passed : Meth K CNode "has_passed" f_Node_has_passed
  F_Node_learn : Fun K "learn" "Node.learn" s_Node_learn f_Node_learn fd_Node_learn
  b_Node_learn : Binds K fd_Node_learn ["self", "whom", "number", "how"] []
  m_Node_learn : Meth K CNode "learn" f_Node_learn
  F_Node_hear : Fun K "hear" "Node.hear" s_Node_hear f_Node_hear fd_Node_hear
  b_Node_hear : Binds K fd_Node_hear ["self", "facts"] []
  m_Node_hear : Meth K CNode "hear" f_Node_hear
  F_Node_hear_of_itself : Fun K "hear_of_itself" "Node.hear_of_itself" s_Node_hear_of_itself f_Node_hear_of_itself fd_Node_hear_of_itself
  b_Node_hear_of_itself : Binds K fd_Node_hear_of_itself ["self", "fact"] []
  m_Node_hear_of_itself : Meth K CNode "hear_of_itself" f_Node_hear_of_itself
  F_Node_give_up : Fun K "give_up" "Node.give_up" s_Node_give_up f_Node_give_up fd_Node_give_up
  b_Node_give_up : Binds K fd_Node_give_up ["self", "patience"] []
  m_Node_give_up : Meth K CNode "give_up" f_Node_give_up
  F_Node_numbers : Fun K "numbers" "Node.numbers" s_Node_numbers f_Node_numbers fd_Node_numbers
  b_Node_numbers : Binds K fd_Node_numbers ["self"] []
  m_Node_numbers : Meth K CNode "numbers" f_Node_numbers
  F_Node_seen : Fun K "seen" "Node.seen" s_Node_seen f_Node_seen fd_Node_seen
  b_Node_seen : Binds K fd_Node_seen ["self"] []
  m_Node_seen : Meth K CNode "seen" f_Node_seen
  F_World_init : Fun K "__init__" "World.__init__" s_World_init f_World_init fd_World_init
  b_World_init : Binds K fd_World_init ["self", "count", "wait", "patience"] []
  F_World_has_node : Fun K "has_node" "World.has_node" s_World_has_node f_World_has_node fd_World_has_node
  b_World_has_node : Binds K fd_World_has_node ["self", "k"] []
  m_World_has_node : Meth K CWorld "has_node" f_World_has_node
  F_World_has_letter : Fun K "has_letter" "World.has_letter" s_World_has_letter f_World_has_letter fd_World_has_letter
  b_World_has_letter : Binds K fd_World_has_letter ["self", "k"] []
  m_World_has_letter : Meth K CWorld "has_letter" f_World_has_letter
  F_World_send : Fun K "send" "World.send" s_World_send f_World_send fd_World_send
  b_World_send : Binds K fd_World_send ["self", "node", "kind", "to", "number", "whom"] []
  m_World_send : Meth K CWorld "send" f_World_send
  F_World_probe : Fun K "probe" "World.probe" s_World_probe f_World_probe fd_World_probe
  b_World_probe : Binds K fd_World_probe ["self", "k", "whom"] []
  m_World_probe : Meth K CWorld "probe" f_World_probe
  F_World_tick : Fun K "tick" "World.tick" s_World_tick f_World_tick fd_World_tick
  b_World_tick : Binds K fd_World_tick ["self", "k"] []
  m_World_tick : Meth K CWorld "tick" f_World_tick
  F_World_wait_on : Fun K "wait_on" "World.wait_on" s_World_wait_on f_World_wait_on fd_World_wait_on
  b_World_wait_on : Binds K fd_World_wait_on ["self", "node"] []
  m_World_wait_on : Meth K CWorld "wait_on" f_World_wait_on
  F_World_call_for_help : Fun K "call_for_help" "World.call_for_help" s_World_call_for_help f_World_call_for_help fd_World_call_for_help
  b_World_call_for_help : Binds K fd_World_call_for_help ["self", "node", "asking"] []
  m_World_call_for_help : Meth K CWorld "call_for_help" f_World_call_for_help
  F_World_blame : Fun K "blame" "World.blame" s_World_blame f_World_blame fd_World_blame
  b_World_blame : Binds K fd_World_blame ["self", "node", "whom"] []
  m_World_blame : Meth K CWorld "blame" f_World_blame
  F_World_take : Fun K "take" "World.take" s_World_take f_World_take fd_World_take
  b_World_take : Binds K fd_World_take ["self", "k"] []
  m_World_take : Meth K CWorld "take" f_World_take
  F_World_keep : Fun K "keep" "World.keep" s_World_keep f_World_keep fd_World_keep
  b_World_keep : Binds K fd_World_keep ["self", "k"] []
  m_World_keep : Meth K CWorld "keep" f_World_keep
  F_World_lose : Fun K "lose" "World.lose" s_World_lose f_World_lose fd_World_lose
  b_World_lose : Binds K fd_World_lose ["self", "k"] []
  m_World_lose : Meth K CWorld "lose" f_World_lose
  F_World_hand_over : Fun K "hand_over" "World.hand_over" s_World_hand_over f_World_hand_over fd_World_hand_over
  b_World_hand_over : Binds K fd_World_hand_over ["self", "letter"] []
  m_World_hand_over : Meth K CWorld "hand_over" f_World_hand_over
  F_World_get_here : Fun K "get_here" "World.get_here" s_World_get_here f_World_get_here fd_World_get_here
  b_World_get_here : Binds K fd_World_get_here ["self", "node", "number"] []
  m_World_get_here : Meth K CWorld "get_here" f_World_get_here
  F_World_ask_for_another : Fun K "ask_for_another" "World.ask_for_another" s_World_ask_for_another f_World_ask_for_another fd_World_ask_for_another
  b_World_ask_for_another : Binds K fd_World_ask_for_another ["self", "node", "letter"] []
  m_World_ask_for_another : Meth K CWorld "ask_for_another" f_World_ask_for_another
  F_World_stop_node : Fun K "stop_node" "World.stop_node" s_World_stop_node f_World_stop_node fd_World_stop_node
  b_World_stop_node : Binds K fd_World_stop_node ["self", "k"] []
  m_World_stop_node : Meth K CWorld "stop_node" f_World_stop_node
  F_World_start_node : Fun K "start_node" "World.start_node" s_World_start_node f_World_start_node fd_World_start_node
  b_World_start_node : Binds K fd_World_start_node ["self", "k"] []
  m_World_start_node : Meth K CWorld "start_node" f_World_start_node
  F_World_tell_letters : Fun K "tell_letters" "World.tell_letters" s_World_tell_letters f_World_tell_letters fd_World_tell_letters
  b_World_tell_letters : Binds K fd_World_tell_letters ["self"] []
  m_World_tell_letters : Meth K CWorld "tell_letters" f_World_tell_letters
  F_World_tell_node : Fun K "tell_node" "World.tell_node" s_World_tell_node f_World_tell_node fd_World_tell_node
  b_World_tell_node : Binds K fd_World_tell_node ["self", "k"] []
  m_World_tell_node : Meth K CWorld "tell_node" f_World_tell_node
  F_World_tell_seen : Fun K "tell_seen" "World.tell_seen" s_World_tell_seen f_World_tell_seen fd_World_tell_seen
  b_World_tell_seen : Binds K fd_World_tell_seen ["self", "k"] []
  m_World_tell_seen : Meth K CWorld "tell_seen" f_World_tell_seen
  F_World_tell_blames : Fun K "tell_blames" "World.tell_blames" s_World_tell_blames f_World_tell_blames fd_World_tell_blames
  b_World_tell_blames : Binds K fd_World_tell_blames ["self"] []
  m_World_tell_blames : Meth K CWorld "tell_blames" f_World_tell_blames
  F_change : Fun K "change" "change" s_change f_change fd_change
  b_change : Binds K fd_change ["world", "call", "told"] []
  g_change : mg "change" = some (.ref f_change)
  k_change : PySem.W.keepIn K (.ref f_change) = true
  F_tell : Fun K "tell" "tell" s_tell f_tell fd_tell
  b_tell : Binds K fd_tell ["world", "call", "told"] []
  g_tell : mg "tell" = some (.ref f_tell)
  k_tell : PySem.W.keepIn K (.ref f_tell) = true
  F_Line_init : Fun K "__init__" "Line.__init__" s_Line_init f_Line_init fd_Line_init
  b_Line_init : Binds K fd_Line_init ["self"] []
  F_Line_begin : Fun K "begin" "Line.begin" s_Line_begin f_Line_begin fd_Line_begin
  b_Line_begin : Binds K fd_Line_begin ["self", "count", "wait", "patience"] []
  m_Line_begin : Meth K CLine "begin" f_Line_begin
  F_Line_answer : Fun K "answer" "Line.answer" s_Line_answer f_Line_answer fd_Line_answer
  b_Line_answer : Binds K fd_Line_answer ["self", "call", "told"] []
  m_Line_answer : Meth K CLine "answer" f_Line_answer
  F_answers : Fun K "answers" "answers" s_answers f_answers fd_answers
  b_answers : Binds K fd_answers ["calls"] []
  g_answers : mg "answers" = some (.ref f_answers)
  k_answers : PySem.W.keepIn K (.ref f_answers) = true
def t_counts_for_more {K : PySem.W.Frag} {mg : Str → Option Value} (G : Pg K mg) : TS :=
    tSeq (tIfS (tTest (tOp rNe (tOp (rIxT K) (tVar 0) (tC (.int 0))) (tOp (rIxT K) (tVar 1) (tC (.int 0))))) (tRet (tOp qGt (tOp (rIxT K) (tVar 0) (tC (.int 0))) (tOp (rIxT K) (tVar 1) (tC (.int 0))))) (tNext))
    (tRet (tOp qGt (tOp (rIxT K) (tVar 0) (tC (.int 1))) (tOp (rIxT K) (tVar 1) (tC (.int 1)))))
def t_one_behind_another {K : PySem.W.Frag} {mg : Str → Option Value} (G : Pg K mg) : TS :=
    tSeq (tAsg (tLst tNil) (gName 1))
    (tSeq (tFor (iList K (tVar 0)) (gName 2) (tDrop (tBM K "list" rExtendS (tVar 1) (tCons (tVar 2) tNil))))
    (tRet (tVar 1)))
def t_Letter_init {K : PySem.W.Frag} {mg : Str → Option Value} (G : Pg K mg) : TS :=
    tSeq (sFld K (tVar 0) (tVar 1) "kind")
    (tSeq (sFld K (tVar 0) (tVar 2) "to")
    (tSeq (sFld K (tVar 0) (tVar 3) "sender")
    (tSeq (sFld K (tVar 0) (tVar 4) "number")
    (tSeq (sFld K (tVar 0) (tVar 5) "whom")
    (sFld K (tVar 0) (tCB (Evl.rListS K) (tCons (tVar 6) tNil)) "facts")))))
def t_Letter_numbers {K : PySem.W.Frag} {mg : Str → Option Value} (G : Pg K mg) (p_one_behind_another : Sp) : TS :=
    tRet (tOp rCat (tLst (tCons (tFld K (tVar 0) "kind") (tCons (tFld K (tVar 0) "to") (tCons (tFld K (tVar 0) "sender") (tCons (tFld K (tVar 0) "number") (tCons (tFld K (tVar 0) "whom") tNil)))))) (tCall p_one_behind_another [] E0 (tCons (tFld K (tVar 0) "facts") tNil)))
def t_Asking_init {K : PySem.W.Frag} {mg : Str → Option Value} (G : Pg K mg) : TS :=
    tSeq (sFld K (tVar 0) (tVar 1) "whom")
    (tSeq (sFld K (tVar 0) (tVar 2) "number")
    (tSeq (sFld K (tVar 0) (tVar 3) "since")
    (sFld K (tVar 0) (tC (.bl false)) "helped")))
def t_Asking_numbers {K : PySem.W.Frag} {mg : Str → Option Value} (G : Pg K mg) : TS :=
    tRet (tLst (tCons (tFld K (tVar 0) "whom") (tCons (tFld K (tVar 0) "number") (tCons (tFld K (tVar 0) "since") (tCons (tIf (tB (tFld K (tVar 0) "helped")) (tC (.int 1)) (tC (.int 0))) tNil)))))
def t_Node_init {K : PySem.W.Frag} {mg : Str → Option Value} (G : Pg K mg) (p_Node_forget : Sp) : TS :=
    tSeq (sFld K (tVar 0) (tVar 1) "me")
    (tSeq (sFld K (tVar 0) (tC (.bl true)) "runs")
    (tSeq (sFld K (tVar 0) (tC (.int 0)) "own")
    (tSeq (sFld K (tVar 0) (tC (.int 0)) "asked")
    (tDrop (tMeth G.CNode "forget" p_Node_forget [] E0 (tVar 0) (tCons (tVar 2) tNil))))))
def t_Node_forget {K : PySem.W.Frag} {mg : Str → Option Value} (G : Pg K mg) : TS :=
    tSeq (sFld K (tVar 0) (tC (.int 0)) "clock")
    (tSeq (sFld K (tVar 0) (tLc (iRng1 (tCons (tVar 1) tNil)) (gName 2) tYes (tTup (tCons (tC (.int 0)) (tCons (tC (.int 0)) tNil))) [2]) "facts")
    (tSeq (sFld K (tVar 0) (tLc (iRng1 (tCons (tVar 1) tNil)) (gName 2) tYes (tC (.int 0)) [2]) "since")
    (tSeq (sFld K (tVar 0) (tC .non) "asking")
    (sFld K (tVar 0) tDNewK "for_others"))))
def t_Node_begin_anew {K : PySem.W.Frag} {mg : Str → Option Value} (G : Pg K mg) (p_Node_forget : Sp) (p_Node_learn : Sp) : TS :=
    tSeq (tDrop (tMeth G.CNode "forget" p_Node_forget [] E0 (tVar 0) (tCons (tCB (Evl.rLenS K) (tCons (tFld K (tVar 0) "facts") tNil)) tNil)))
    (tSeq (sFld K (tVar 0) (tC (.bl true)) "runs")
    (tSeq (sFldAug K (tVar 0) (tC (.int 1)) L2.rAdd "own")
    (tDrop (tMeth G.CNode "learn" p_Node_learn [] E0 (tVar 0) (tCons (tFld K (tVar 0) "me") (tCons (tFld K (tVar 0) "own") (tCons (tC (.int 0)) tNil)))))))
def t_Node_has_passed {K : PySem.W.Frag} {mg : Str → Option Value} (G : Pg K mg) : TS :=
    tRet (tOp qLe (tOp qAdd (tVar 1) (tVar 2)) (tFld K (tVar 0) "clock"))
def t_Node_learn {K : PySem.W.Frag} {mg : Str → Option Value} (G : Pg K mg) : TS :=
    tSeq (tAsg (tTup (tCons (tVar 2) (tCons (tVar 3) tNil))) (gSub (tFld K (tVar 0) "facts") (tVar 1) rSetL))
    (tAsg (tFld K (tVar 0) "clock") (gSub (tFld K (tVar 0) "since") (tVar 1) rSetL))
def t_Node_hear {K : PySem.W.Frag} {mg : Str → Option Value} (G : Pg K mg) (p_Node_hear_of_itself : Sp) (p_counts_for_more : Sp) (p_Node_learn : Sp) : TS :=
    tFor (iRng1 (tCons (tCB (Evl.rLenS K) (tCons (tVar 1) tNil)) tNil)) (gName 2) (tSeq (tAsg (tOp (rIxL K) (tVar 1) (tVar 2)) (gName 3))
    (tIfS (tTest (tOp rEq (tVar 2) (tFld K (tVar 0) "me"))) (tDrop (tMeth G.CNode "hear_of_itself" p_Node_hear_of_itself [] E0 (tVar 0) (tCons (tVar 3) tNil))) (tIfS (tB (tCall p_counts_for_more [] E0 (tCons (tVar 3) (tCons (tOp (rIxL K) (tFld K (tVar 0) "facts") (tVar 2)) tNil)))) (tDrop (tMeth G.CNode "learn" p_Node_learn [] E0 (tVar 0) (tCons (tVar 2) (tCons (tOp (rIxT K) (tVar 3) (tC (.int 0))) (tCons (tOp (rIxT K) (tVar 3) (tC (.int 1))) tNil))))) (tNext))))
def t_Node_hear_of_itself {K : PySem.W.Frag} {mg : Str → Option Value} (G : Pg K mg) (p_Node_learn : Sp) : TS :=
    tIfS (tAnd (tTest (tOp rNe (tOp (rIxT K) (tVar 1) (tC (.int 1))) (tC (.int 0)))) (tTest (tOp qGe (tOp (rIxT K) (tVar 1) (tC (.int 0))) (tFld K (tVar 0) "own")))) (tSeq (sFld K (tVar 0) (tOp qAdd (tOp (rIxT K) (tVar 1) (tC (.int 0))) (tC (.int 1))) "own")
    (tDrop (tMeth G.CNode "learn" p_Node_learn [] E0 (tVar 0) (tCons (tFld K (tVar 0) "me") (tCons (tFld K (tVar 0) "own") (tCons (tC (.int 0)) tNil)))))) (tNext)
def t_Node_give_up {K : PySem.W.Frag} {mg : Str → Option Value} (G : Pg K mg) (p_Node_has_passed : Sp) (p_Node_learn : Sp) : TS :=
    tFor (iRng1 (tCons (tCB (Evl.rLenS K) (tCons (tFld K (tVar 0) "facts") tNil)) tNil)) (gName 2) (tSeq (tAsg (tOp (rIxL K) (tFld K (tVar 0) "facts") (tVar 2)) (gName 3))
    (tIfS (tAnd (tTest (tOp rEq (tOp (rIxT K) (tVar 3) (tC (.int 1))) (tC (.int 1)))) (tB (tMeth G.CNode "has_passed" p_Node_has_passed [] E0 (tVar 0) (tCons (tOp (rIxL K) (tFld K (tVar 0) "since") (tVar 2)) (tCons (tVar 1) tNil))))) (tDrop (tMeth G.CNode "learn" p_Node_learn [] E0 (tVar 0) (tCons (tVar 2) (tCons (tOp (rIxT K) (tVar 3) (tC (.int 0))) (tCons (tC (.int 2)) tNil))))) (tNext)))
def t_Node_numbers {K : PySem.W.Frag} {mg : Str → Option Value} (G : Pg K mg) (p_one_behind_another : Sp) (p_Asking_numbers : Sp) : TS :=
    tSeq (tAsg (tLst (tCons (tIf (tB (tFld K (tVar 0) "runs")) (tC (.int 1)) (tC (.int 0))) (tCons (tFld K (tVar 0) "own") (tCons (tFld K (tVar 0) "asked") (tCons (tFld K (tVar 0) "clock") tNil))))) (gName 1))
    (tSeq (tDrop (tBM K "list" rExtend (tVar 1) (tCons (tCall p_one_behind_another [] E0 (tCons (tFld K (tVar 0) "facts") tNil)) tNil)))
    (tSeq (tDrop (tBM K "list" rExtend (tVar 1) (tCons (tFld K (tVar 0) "since") tNil)))
    (tSeq (tIfS (tTest (tOp rIsN (tFld K (tVar 0) "asking") (tC .non))) (tDrop (tBM K "list" rAppend (tVar 1) (tCons (tC (.int 0)) tNil))) (tSeq (tDrop (tBM K "list" rAppend (tVar 1) (tCons (tC (.int 1)) tNil)))
    (tDrop (tBM K "list" rExtend (tVar 1) (tCons (tMeth G.CAsking "numbers" p_Asking_numbers [] E0 (tFld K (tVar 0) "asking") tNil) tNil)))))
    (tSeq (tDrop (tBM K "list" rAppend (tVar 1) (tCons (tCB rLenD (tCons (tFld K (tVar 0) "for_others") tNil)) tNil)))
    (tSeq (tLock (tFor (iKeys (tFld K (tVar 0) "for_others")) (gName 2) (tSeq (tAsg (tDGet (tFld K (tVar 0) "for_others") (tVar 2)) (gName 3))
    (tDrop (tBM K "list" rExtend (tVar 1) (tCons (tLst (tCons (tVar 2) (tCons (tOp (rIxT K) (tVar 3) (tC (.int 0))) (tCons (tOp (rIxT K) (tVar 3) (tC (.int 1))) tNil)))) tNil))))))
    (tRet (tVar 1)))))))
def t_Node_seen {K : PySem.W.Frag} {mg : Str → Option Value} (G : Pg K mg) : TS :=
    tRet (tLc (iRng1 (tCons (tCB (Evl.rLenS K) (tCons (tFld K (tVar 0) "facts") tNil)) tNil)) (gName 1) (tTest (tOp rNe (tOp (rIxT K) (tOp (rIxL K) (tFld K (tVar 0) "facts") (tVar 1)) (tC (.int 1))) (tC (.int 2)))) (tVar 1) [1])
def t_World_init {K : PySem.W.Frag} {mg : Str → Option Value} (G : Pg K mg) (p_Node_init : Sp) : TS :=
    tSeq (sFld K (tVar 0) (tVar 2) "wait")
    (tSeq (sFld K (tVar 0) (tVar 3) "patience")
    (tSeq (sFld K (tVar 0) (tLc (iRng1 (tCons (tVar 1) tNil)) (gName 4) tYes (tMake G.CNode p_Node_init [] E0 (tCons (tVar 4) (tCons (tVar 1) tNil))) [4]) "nodes")
    (tSeq (sFld K (tVar 0) (tLst tNil) "row")
    (sFld K (tVar 0) (tLst tNil) "blamed"))))
def t_World_has_node {K : PySem.W.Frag} {mg : Str → Option Value} (G : Pg K mg) : TS :=
    tRet (tChain qLe qLt (tC (.int 0)) (tVar 1) (tCB (Evl.rLenS K) (tCons (tFld K (tVar 0) "nodes") tNil)))
def t_World_has_letter {K : PySem.W.Frag} {mg : Str → Option Value} (G : Pg K mg) : TS :=
    tRet (tChain qLe qLt (tC (.int 0)) (tVar 1) (tCB (Evl.rLenS K) (tCons (tFld K (tVar 0) "row") tNil)))
def t_World_send {K : PySem.W.Frag} {mg : Str → Option Value} (G : Pg K mg) (p_Letter_init : Sp) : TS :=
    tIfS (tTest (tOp qLt (tCB (Evl.rLenS K) (tCons (tFld K (tVar 0) "row") tNil)) (tC (.int 100)))) (tDrop (tBM K "list" rAppend (tFld K (tVar 0) "row") (tCons (tMake G.CLetter p_Letter_init [] E0 (tCons (tVar 2) (tCons (tVar 3) (tCons (tFld K (tVar 1) "me") (tCons (tVar 4) (tCons (tVar 5) (tCons (tFld K (tVar 1) "facts") tNil))))))) tNil))) (tNext)
def t_World_probe {K : PySem.W.Frag} {mg : Str → Option Value} (G : Pg K mg) (p_Asking_init : Sp) (p_World_send : Sp) (p_World_has_node : Sp) : TS :=
    tSeq (tIfS (tOr (tNot (tB (tMeth G.CWorld "has_node" p_World_has_node [] E0 (tVar 0) (tCons (tVar 1) tNil)))) (tOr (tNot (tB (tMeth G.CWorld "has_node" p_World_has_node [] E0 (tVar 0) (tCons (tVar 2) tNil)))) (tTest (tOp rEq (tVar 1) (tVar 2))))) (tRet (tC (.int (-1)))) (tNext))
    (tSeq (tAsg (tOp (rIxL K) (tFld K (tVar 0) "nodes") (tVar 1)) (gName 3))
    (tSeq (tIfS (tNot (tB (tFld K (tVar 3) "runs"))) (tRet (tC (.int (-3)))) (tNext))
    (tSeq (sFldAug K (tVar 3) (tC (.int 1)) L2.rAdd "asked")
    (tSeq (sFld K (tVar 3) (tMake G.CAsking p_Asking_init [] E0 (tCons (tVar 2) (tCons (tFld K (tVar 3) "asked") (tCons (tFld K (tVar 3) "clock") tNil)))) "asking")
    (tSeq (tDrop (tMeth G.CWorld "send" p_World_send [] E0 (tVar 0) (tCons (tVar 3) (tCons (tC (.int 0)) (tCons (tVar 2) (tCons (tFld K (tVar 3) "asked") (tCons (tC (.int 0)) tNil)))))))
    (tRet (tFld K (tVar 3) "asked")))))))
def t_World_tick {K : PySem.W.Frag} {mg : Str → Option Value} (G : Pg K mg) (p_Node_give_up : Sp) (p_World_has_node : Sp) (p_World_wait_on : Sp) : TS :=
    tSeq (tIfS (tNot (tB (tMeth G.CWorld "has_node" p_World_has_node [] E0 (tVar 0) (tCons (tVar 1) tNil)))) (tRet (tC (.int (-1)))) (tNext))
    (tSeq (tAsg (tOp (rIxL K) (tFld K (tVar 0) "nodes") (tVar 1)) (gName 2))
    (tSeq (tIfS (tNot (tB (tFld K (tVar 2) "runs"))) (tRet (tC (.int (-3)))) (tNext))
    (tSeq (sFldAug K (tVar 2) (tC (.int 1)) L2.rAdd "clock")
    (tSeq (tDrop (tMeth G.CNode "give_up" p_Node_give_up [] E0 (tVar 2) (tCons (tFld K (tVar 0) "patience") tNil)))
    (tSeq (tIfS (tTest (tOp rNotN (tFld K (tVar 2) "asking") (tC .non))) (tDrop (tMeth G.CWorld "wait_on" p_World_wait_on [] E0 (tVar 0) (tCons (tVar 2) tNil))) (tNext))
    (tRet (tFld K (tVar 2) "clock")))))))
def t_World_wait_on {K : PySem.W.Frag} {mg : Str → Option Value} (G : Pg K mg) (p_Node_has_passed : Sp) (p_World_call_for_help : Sp) (p_World_blame : Sp) : TS :=
    tSeq (tAsg (tFld K (tVar 1) "asking") (gName 2))
    (tIfS (tAnd (tNot (tB (tFld K (tVar 2) "helped"))) (tB (tMeth G.CNode "has_passed" p_Node_has_passed [] E0 (tVar 1) (tCons (tFld K (tVar 2) "since") (tCons (tFld K (tVar 0) "wait") tNil))))) (tSeq (sFld K (tVar 2) (tC (.bl true)) "helped")
    (tDrop (tMeth G.CWorld "call_for_help" p_World_call_for_help [] E0 (tVar 0) (tCons (tVar 1) (tCons (tVar 2) tNil))))) (tIfS (tB (tMeth G.CNode "has_passed" p_Node_has_passed [] E0 (tVar 1) (tCons (tFld K (tVar 2) "since") (tCons (tOp qMul (tC (.int 2)) (tFld K (tVar 0) "wait")) tNil)))) (tSeq (sFld K (tVar 1) (tC .non) "asking")
    (tDrop (tMeth G.CWorld "blame" p_World_blame [] E0 (tVar 0) (tCons (tVar 1) (tCons (tFld K (tVar 2) "whom") tNil))))) (tNext)))
def t_World_call_for_help {K : PySem.W.Frag} {mg : Str → Option Value} (G : Pg K mg) (p_World_send : Sp) : TS :=
    tFor (iRng1 (tCons (tCB (Evl.rLenS K) (tCons (tFld K (tVar 0) "nodes") tNil)) tNil)) (gName 3) (tIfS (tAnd (tTest (tOp rNe (tVar 3) (tFld K (tVar 1) "me"))) (tTest (tOp rNe (tVar 3) (tFld K (tVar 2) "whom")))) (tDrop (tMeth G.CWorld "send" p_World_send [] E0 (tVar 0) (tCons (tVar 1) (tCons (tC (.int 2)) (tCons (tVar 3) (tCons (tFld K (tVar 2) "number") (tCons (tFld K (tVar 2) "whom") tNil))))))) (tNext))
def t_World_blame {K : PySem.W.Frag} {mg : Str → Option Value} (G : Pg K mg) (p_Node_learn : Sp) : TS :=
    tSeq (tAsg (tOp (rIxL K) (tFld K (tVar 1) "facts") (tVar 2)) (gName 3))
    (tIfS (tTest (tOp rEq (tOp (rIxT K) (tVar 3) (tC (.int 1))) (tC (.int 0)))) (tSeq (tDrop (tMeth G.CNode "learn" p_Node_learn [] E0 (tVar 1) (tCons (tVar 2) (tCons (tOp (rIxT K) (tVar 3) (tC (.int 0))) (tCons (tC (.int 1)) tNil)))))
    (tDrop (tBM K "list" rAppend (tFld K (tVar 0) "blamed") (tCons (tTup (tCons (tFld K (tVar 1) "me") (tCons (tVar 2) (tCons (tOp (rIxT K) (tVar 3) (tC (.int 0))) tNil)))) tNil)))) (tNext))
def t_World_take {K : PySem.W.Frag} {mg : Str → Option Value} (G : Pg K mg) (p_World_hand_over : Sp) (p_World_has_letter : Sp) : TS :=
    tSeq (tIfS (tNot (tB (tMeth G.CWorld "has_letter" p_World_has_letter [] E0 (tVar 0) (tCons (tVar 1) tNil)))) (tRet (tC (.int (-1)))) (tNext))
    (tSeq (tAsg (tBM K "list" rPopAt (tFld K (tVar 0) "row") (tCons (tVar 1) tNil)) (gName 2))
    (tRet (tMeth G.CWorld "hand_over" p_World_hand_over [] E0 (tVar 0) (tCons (tVar 2) tNil))))
def t_World_keep {K : PySem.W.Frag} {mg : Str → Option Value} (G : Pg K mg) (p_World_hand_over : Sp) (p_World_has_letter : Sp) : TS :=
    tSeq (tIfS (tNot (tB (tMeth G.CWorld "has_letter" p_World_has_letter [] E0 (tVar 0) (tCons (tVar 1) tNil)))) (tRet (tC (.int (-1)))) (tNext))
    (tRet (tMeth G.CWorld "hand_over" p_World_hand_over [] E0 (tVar 0) (tCons (tOp (rIxL K) (tFld K (tVar 0) "row") (tVar 1)) tNil)))
def t_World_lose {K : PySem.W.Frag} {mg : Str → Option Value} (G : Pg K mg) (p_World_has_letter : Sp) : TS :=
    tSeq (tIfS (tNot (tB (tMeth G.CWorld "has_letter" p_World_has_letter [] E0 (tVar 0) (tCons (tVar 1) tNil)))) (tRet (tC (.int (-1)))) (tNext))
    (tSeq (tDrop (tBM K "list" rPopAt (tFld K (tVar 0) "row") (tCons (tVar 1) tNil)))
    (tRet (tC (.int 0))))
def t_World_hand_over {K : PySem.W.Frag} {mg : Str → Option Value} (G : Pg K mg) (p_Node_hear : Sp) (p_World_ask_for_another : Sp) (p_World_send : Sp) (p_World_get_here : Sp) : TS :=
    tSeq (tAsg (tOp (rIxL K) (tFld K (tVar 0) "nodes") (tFld K (tVar 1) "to")) (gName 2))
    (tSeq (tIfS (tNot (tB (tFld K (tVar 2) "runs"))) (tRet (tC (.int 0))) (tNext))
    (tSeq (tDrop (tMeth G.CNode "hear" p_Node_hear [] E0 (tVar 2) (tCons (tFld K (tVar 1) "facts") tNil)))
    (tSeq (tIfS (tTest (tOp rEq (tFld K (tVar 1) "kind") (tC (.int 0)))) (tSeq (tDrop (tMeth G.CWorld "send" p_World_send [] E0 (tVar 0) (tCons (tVar 2) (tCons (tC (.int 1)) (tCons (tFld K (tVar 1) "sender") (tCons (tFld K (tVar 1) "number") (tCons (tC (.int 0)) tNil)))))))
    (tRet (tC (.int 1)))) (tNext))
    (tSeq (tIfS (tTest (tOp rEq (tFld K (tVar 1) "kind") (tC (.int 1)))) (tRet (tMeth G.CWorld "get_here" p_World_get_here [] E0 (tVar 0) (tCons (tVar 2) (tCons (tFld K (tVar 1) "number") tNil)))) (tNext))
    (tRet (tMeth G.CWorld "ask_for_another" p_World_ask_for_another [] E0 (tVar 0) (tCons (tVar 2) (tCons (tVar 1) tNil))))))))
def t_World_get_here {K : PySem.W.Frag} {mg : Str → Option Value} (G : Pg K mg) (p_World_send : Sp) : TS :=
    tSeq (tAsg (tDPop2 (tFld K (tVar 1) "for_others") (tVar 2) (tC .non)) (gName 3))
    (tSeq (tIfS (tTest (tOp rNotN (tVar 3) (tC .non))) (tSeq (tDrop (tMeth G.CWorld "send" p_World_send [] E0 (tVar 0) (tCons (tVar 1) (tCons (tC (.int 1)) (tCons (tOp (rIxT K) (tVar 3) (tC (.int 0))) (tCons (tOp (rIxT K) (tVar 3) (tC (.int 1))) (tCons (tC (.int 0)) tNil)))))))
    (tRet (tC (.int 3)))) (tNext))
    (tSeq (tIfS (tAnd (tTest (tOp rNotN (tFld K (tVar 1) "asking") (tC .non))) (tTest (tOp rEq (tFld K (tFld K (tVar 1) "asking") "number") (tVar 2)))) (tSeq (sFld K (tVar 1) (tC .non) "asking")
    (tRet (tC (.int 2)))) (tNext))
    (tRet (tC (.int 5)))))
def t_World_ask_for_another {K : PySem.W.Frag} {mg : Str → Option Value} (G : Pg K mg) (p_World_send : Sp) : TS :=
    tSeq (sFldAug K (tVar 1) (tC (.int 1)) L2.rAdd "asked")
    (tSeq (sDPut (tFld K (tVar 1) "for_others") (tFld K (tVar 1) "asked") (tTup (tCons (tFld K (tVar 2) "sender") (tCons (tFld K (tVar 2) "number") tNil))))
    (tSeq (tDrop (tMeth G.CWorld "send" p_World_send [] E0 (tVar 0) (tCons (tVar 1) (tCons (tC (.int 0)) (tCons (tFld K (tVar 2) "whom") (tCons (tFld K (tVar 1) "asked") (tCons (tC (.int 0)) tNil)))))))
    (tRet (tC (.int 4)))))
def t_World_stop_node {K : PySem.W.Frag} {mg : Str → Option Value} (G : Pg K mg) (p_World_has_node : Sp) : TS :=
    tSeq (tIfS (tNot (tB (tMeth G.CWorld "has_node" p_World_has_node [] E0 (tVar 0) (tCons (tVar 1) tNil)))) (tRet (tC (.int (-1)))) (tNext))
    (tSeq (tAsg (tOp (rIxL K) (tFld K (tVar 0) "nodes") (tVar 1)) (gName 2))
    (tSeq (tIfS (tNot (tB (tFld K (tVar 2) "runs"))) (tRet (tC (.int (-2)))) (tNext))
    (tSeq (sFld K (tVar 2) (tC (.bl false)) "runs")
    (tRet (tC (.int 0))))))
def t_World_start_node {K : PySem.W.Frag} {mg : Str → Option Value} (G : Pg K mg) (p_Node_begin_anew : Sp) (p_World_has_node : Sp) : TS :=
    tSeq (tIfS (tNot (tB (tMeth G.CWorld "has_node" p_World_has_node [] E0 (tVar 0) (tCons (tVar 1) tNil)))) (tRet (tC (.int (-1)))) (tNext))
    (tSeq (tAsg (tOp (rIxL K) (tFld K (tVar 0) "nodes") (tVar 1)) (gName 2))
    (tSeq (tIfS (tB (tFld K (tVar 2) "runs")) (tRet (tC (.int (-2)))) (tNext))
    (tSeq (tDrop (tMeth G.CNode "begin_anew" p_Node_begin_anew [] E0 (tVar 2) tNil))
    (tRet (tFld K (tVar 2) "own")))))
def t_World_tell_letters {K : PySem.W.Frag} {mg : Str → Option Value} (G : Pg K mg) (p_one_behind_another : Sp) (p_Letter_numbers : Sp) : TS :=
    tRet (tOp rCat (tLst (tCons (tCB (Evl.rLenS K) (tCons (tFld K (tVar 0) "row") tNil)) tNil)) (tCall p_one_behind_another [] E0 (tCons (tLc (iList K (tFld K (tVar 0) "row")) (gName 1) tYes (tMeth G.CLetter "numbers" p_Letter_numbers [] E0 (tVar 1) tNil) [1]) tNil)))
def t_World_tell_node {K : PySem.W.Frag} {mg : Str → Option Value} (G : Pg K mg) (p_Node_numbers : Sp) (p_World_has_node : Sp) : TS :=
    tSeq (tIfS (tNot (tB (tMeth G.CWorld "has_node" p_World_has_node [] E0 (tVar 0) (tCons (tVar 1) tNil)))) (tRet (tLst (tCons (tC (.int (-1))) tNil))) (tNext))
    (tRet (tMeth G.CNode "numbers" p_Node_numbers [] E0 (tOp (rIxL K) (tFld K (tVar 0) "nodes") (tVar 1)) tNil))
def t_World_tell_seen {K : PySem.W.Frag} {mg : Str → Option Value} (G : Pg K mg) (p_Node_seen : Sp) (p_World_has_node : Sp) : TS :=
    tSeq (tIfS (tNot (tB (tMeth G.CWorld "has_node" p_World_has_node [] E0 (tVar 0) (tCons (tVar 1) tNil)))) (tRet (tLst (tCons (tC (.int (-1))) tNil))) (tNext))
    (tSeq (tAsg (tMeth G.CNode "seen" p_Node_seen [] E0 (tOp (rIxL K) (tFld K (tVar 0) "nodes") (tVar 1)) tNil) (gName 2))
    (tRet (tOp rCat (tLst (tCons (tCB (Evl.rLenS K) (tCons (tVar 2) tNil)) tNil)) (tVar 2))))
def t_World_tell_blames {K : PySem.W.Frag} {mg : Str → Option Value} (G : Pg K mg) (p_one_behind_another : Sp) : TS :=
    tRet (tOp rCat (tLst (tCons (tCB (Evl.rLenS K) (tCons (tFld K (tVar 0) "blamed") tNil)) tNil)) (tCall p_one_behind_another [] E0 (tCons (tFld K (tVar 0) "blamed") tNil)))
def t_change {K : PySem.W.Frag} {mg : Str → Option Value} (G : Pg K mg) (p_World_start_node : Sp) (p_World_probe : Sp) (p_World_tick : Sp) (p_World_take : Sp) (p_World_keep : Sp) (p_World_lose : Sp) (p_World_stop_node : Sp) : TS :=
    tSeq (tIfS (tTest (tOp rEq (tVar 1) (tC (.int 1)))) (tRet (tMeth G.CWorld "probe" p_World_probe [] E0 (tVar 0) (tCons (tOp (rIxL K) (tVar 2) (tC (.int 0))) (tCons (tOp (rIxL K) (tVar 2) (tC (.int 1))) tNil)))) (tNext))
    (tSeq (tIfS (tTest (tOp rEq (tVar 1) (tC (.int 2)))) (tRet (tMeth G.CWorld "tick" p_World_tick [] E0 (tVar 0) (tCons (tOp (rIxL K) (tVar 2) (tC (.int 0))) tNil))) (tNext))
    (tSeq (tIfS (tTest (tOp rEq (tVar 1) (tC (.int 3)))) (tRet (tMeth G.CWorld "take" p_World_take [] E0 (tVar 0) (tCons (tOp (rIxL K) (tVar 2) (tC (.int 0))) tNil))) (tNext))
    (tSeq (tIfS (tTest (tOp rEq (tVar 1) (tC (.int 4)))) (tRet (tMeth G.CWorld "keep" p_World_keep [] E0 (tVar 0) (tCons (tOp (rIxL K) (tVar 2) (tC (.int 0))) tNil))) (tNext))
    (tSeq (tIfS (tTest (tOp rEq (tVar 1) (tC (.int 5)))) (tRet (tMeth G.CWorld "lose" p_World_lose [] E0 (tVar 0) (tCons (tOp (rIxL K) (tVar 2) (tC (.int 0))) tNil))) (tNext))
    (tSeq (tIfS (tTest (tOp rEq (tVar 1) (tC (.int 6)))) (tRet (tMeth G.CWorld "stop_node" p_World_stop_node [] E0 (tVar 0) (tCons (tOp (rIxL K) (tVar 2) (tC (.int 0))) tNil))) (tNext))
    (tRet (tMeth G.CWorld "start_node" p_World_start_node [] E0 (tVar 0) (tCons (tOp (rIxL K) (tVar 2) (tC (.int 0))) tNil))))))))
def t_tell {K : PySem.W.Frag} {mg : Str → Option Value} (G : Pg K mg) (p_World_tell_blames : Sp) (p_World_tell_letters : Sp) (p_World_tell_node : Sp) (p_World_tell_seen : Sp) : TS :=
    tSeq (tIfS (tTest (tOp rEq (tVar 1) (tC (.int 8)))) (tRet (tMeth G.CWorld "tell_letters" p_World_tell_letters [] E0 (tVar 0) tNil)) (tNext))
    (tSeq (tIfS (tTest (tOp rEq (tVar 1) (tC (.int 9)))) (tRet (tMeth G.CWorld "tell_node" p_World_tell_node [] E0 (tVar 0) (tCons (tOp (rIxL K) (tVar 2) (tC (.int 0))) tNil))) (tNext))
    (tSeq (tIfS (tTest (tOp rEq (tVar 1) (tC (.int 10)))) (tRet (tMeth G.CWorld "tell_seen" p_World_tell_seen [] E0 (tVar 0) (tCons (tOp (rIxL K) (tVar 2) (tC (.int 0))) tNil))) (tNext))
    (tRet (tMeth G.CWorld "tell_blames" p_World_tell_blames [] E0 (tVar 0) tNil))))
def t_Line_init {K : PySem.W.Frag} {mg : Str → Option Value} (G : Pg K mg) : TS :=
    sFld K (tVar 0) (tC .non) "world"
def t_Line_begin {K : PySem.W.Frag} {mg : Str → Option Value} (G : Pg K mg) (p_World_init : Sp) : TS :=
    tSeq (tIfS (tOr (tNot (tTest (tChain qLe qLe (tC (.int 2)) (tVar 1) (tC (.int 5))))) (tOr (tNot (tTest (tChain qLe qLe (tC (.int 1)) (tVar 2) (tC (.int 20))))) (tNot (tTest (tChain qLe qLe (tC (.int 1)) (tVar 3) (tC (.int 20))))))) (tRet (tC (.int (-1)))) (tNext))
    (tSeq (sFld K (tVar 0) (tMake G.CWorld p_World_init [] E0 (tCons (tVar 1) (tCons (tVar 2) (tCons (tVar 3) tNil)))) "world")
    (tRet (tC (.int 0))))
def t_Line_answer {K : PySem.W.Frag} {mg : Str → Option Value} (G : Pg K mg) (p_tell : Sp) (p_Line_begin : Sp) (p_change : Sp) : TS :=
    tSeq (tIfS (tTest (tOp rEq (tVar 1) (tC (.int 0)))) (tRet (tLst (tCons (tMeth G.CLine "begin" p_Line_begin [] E0 (tVar 0) (tCons (tOp (rIxL K) (tVar 2) (tC (.int 0))) (tCons (tOp (rIxL K) (tVar 2) (tC (.int 1))) (tCons (tOp (rIxL K) (tVar 2) (tC (.int 2))) tNil)))) tNil))) (tNext))
    (tSeq (tIfS (tTest (tOp rIsN (tFld K (tVar 0) "world") (tC .non))) (tRet (tLst (tCons (tC (.int (-9))) tNil))) (tNext))
    (tSeq (tIfS (tTest (tOp qLt (tVar 1) (tC (.int 8)))) (tRet (tLst (tCons (tCall p_change [] E0 (tCons (tFld K (tVar 0) "world") (tCons (tVar 1) (tCons (tVar 2) tNil)))) tNil))) (tNext))
    (tRet (tCall p_tell [] E0 (tCons (tFld K (tVar 0) "world") (tCons (tVar 1) (tCons (tVar 2) tNil)))))))
def t_answers {K : PySem.W.Frag} {mg : Str → Option Value} (G : Pg K mg) (p_Line_init : Sp) (p_Line_answer : Sp) : TS :=
    tSeq (tAsg (tMake G.CLine p_Line_init [] E0 tNil) (gName 1))
    (tSeq (tAsg (tLst tNil) (gName 2))
    (tSeq (tAsg (tC (.int 0)) (gName 3))
    (tSeq (tWhile (tTest (tOp qLt (tVar 3) (tCB (Evl.rLenS K) (tCons (tVar 0) tNil)))) (tSeq (tAsg (tOp (rIxL K) (tVar 0) (tVar 3)) (gName 4))
    (tSeq (tAsg (tOp qAdd (tOp qAdd (tVar 3) (tC (.int 1))) (tOp (rIxT K) (tC (.ref G.a_COUNTS)) (tVar 4))) (gName 5))
    (tSeq (tAsg (tMeth G.CLine "answer" p_Line_answer [] E0 (tVar 1) (tCons (tVar 4) (tCons (tSl (rSlL K) (tVar 0) (tPart (tOp qAdd (tVar 3) (tC (.int 1)))) (tPart (tVar 5))) tNil))) (gName 6))
    (tSeq (tDrop (tBM K "list" rAppend (tVar 2) (tCons (tCB (Evl.rLenS K) (tCons (tVar 6) tNil)) tNil)))
    (tSeq (tDrop (tBM K "list" rExtend (tVar 2) (tCons (tVar 6) tNil)))
    (tAsg (tVar 5) (gName 3))))))))
    (tRet (tVar 2)))))
section
variable {P : Program} {w : World} {K : PySem.W.Frag} {mg : Str → Option Value} {base : Heap}
theorem bd_counts_for_more (G : Pg K mg) {cdv : Value} {A : Around} {outer : List Env} {s : Shared} {H : Hp} {E : XK} (hr : Room 0 (A.deeper (envOfC "counts_for_more" (defScope s_counts_for_more) s.heap.objs.size G.f_counts_for_more cdv))) :
    PSs (cxOf CX0 P w K mg base ["fact", "other"] "counts_for_more" (defScope s_counts_for_more) G.f_counts_for_more cdv A outer s H E).nox (defBody s_counts_for_more) (t_counts_for_more G) := by
  exact pss_cons (ps_if (pt_cmpR op_ne (pe_ix ix_tup (pv 0) pe_int (fun _ _ => rfl)) (pe_ix ix_tup (pv 1) pe_int (fun _ _ => rfl)) (nomark _)) (pss_one (ps_ret (pe_cmpR op_gt (pe_ix ix_tup (pv 0) pe_int (fun _ _ => rfl)) (pe_ix ix_tup (pv 1) pe_int (fun _ _ => rfl)) (nomark _)))) (pss_nil))
      (pss_one (ps_ret (pe_cmpR op_gt (pe_ix ix_tup (pv 0) pe_int (fun _ _ => rfl)) (pe_ix ix_tup (pv 1) pe_int (fun _ _ => rfl)) (nomark _))))
theorem bd_one_behind_another (G : Pg K mg) {cdv : Value} {A : Around} {outer : List Env} {s : Shared} {H : Hp} {E : XK} (hr : Room 0 (A.deeper (envOfC "one_behind_another" (defScope s_one_behind_another) s.heap.objs.size G.f_one_behind_another cdv))) :
    PSs (cxOf CX0 P w K mg base ["parts", "numbers", "part"] "one_behind_another" (defScope s_one_behind_another) G.f_one_behind_another cdv A outer s H E).nox (defBody s_one_behind_another) (t_one_behind_another G) := by
  exact pss_cons (ps_set (i := 1) sc_one_behind_another.nd rfl (Or.inl rfl) (pe_lst pa_nil))
      (pss_cons (ps_for PassesOwn.never rfl (pi_list (pv 0)) (pg_name (i := 2) sc_one_behind_another.nd rfl (Or.inl rfl)) (pss_one (ps_expr (pe_bm PySem.F.plainAttrs_list PySem.F.slot_list_extend PySem.F.type_list_extend mt_extendS (pv 1) (pa_cons (pv 2) pa_nil)))))
      (pss_one (ps_ret (pv 1))))
theorem bd_Letter_init (G : Pg K mg) {cdv : Value} {A : Around} {outer : List Env} {s : Shared} {H : Hp} {E : XK} (hr : Room 0 (A.deeper (envOfC "Letter.__init__" (defScope s_Letter_init) s.heap.objs.size G.f_Letter_init cdv))) :
    PSs (cxOf CX0 P w K mg base ["self", "kind", "to", "sender", "number", "whom", "facts"] "Letter.__init__" (defScope s_Letter_init) G.f_Letter_init cdv A outer s H E).nox (defBody s_Letter_init) (t_Letter_init G) := by
  exact pss_cons (ps_fld (pv 0) (pv 1) rfl)
      (pss_cons (ps_fld (pv 0) (pv 2) rfl)
      (pss_cons (ps_fld (pv 0) (pv 3) rfl)
      (pss_cons (ps_fld (pv 0) (pv 4) rfl)
      (pss_cons (ps_fld (pv 0) (pv 5) rfl)
      (pss_one (ps_fld (pv 0) (pe_callTy call_list_of (by rfl) G.b_list (by decide +kernel) (pa_cons (pv 6) pa_nil)) rfl))))))
theorem bd_Letter_numbers (G : Pg K mg) {p_one_behind_another : Sp} (o_one_behind_another : FnOk P w K mg base CX0 1 G.f_one_behind_another G.fd_one_behind_another ["parts"] p_one_behind_another) {cdv : Value} {A : Around} {outer : List Env} {s : Shared} {H : Hp} {E : XK} (hr : Room 1 (A.deeper (envOfC "Letter.numbers" (defScope s_Letter_numbers) s.heap.objs.size G.f_Letter_numbers cdv))) :
    PSs (cxOf CX0 P w K mg base ["self"] "Letter.numbers" (defScope s_Letter_numbers) G.f_Letter_numbers cdv A outer s H E).nox (defBody s_Letter_numbers) (t_Letter_numbers G p_one_behind_another) := by
  exact pss_one (ps_ret (pe_op op_cat (pe_lst (pa_cons (pe_fld (pv 0) rfl) (pa_cons (pe_fld (pv 0) rfl) (pa_cons (pe_fld (pv 0) rfl) (pa_cons (pe_fld (pv 0) rfl) (pa_cons (pe_fld (pv 0) rfl) pa_nil)))))) (pe_call o_one_behind_another hr rfl G.g_one_behind_another G.k_one_behind_another G.b_one_behind_another .nil pass0 (pa_cons (pe_fld (pv 0) rfl) pa_nil))))
theorem bd_Asking_init (G : Pg K mg) {cdv : Value} {A : Around} {outer : List Env} {s : Shared} {H : Hp} {E : XK} (hr : Room 0 (A.deeper (envOfC "Asking.__init__" (defScope s_Asking_init) s.heap.objs.size G.f_Asking_init cdv))) :
    PSs (cxOf CX0 P w K mg base ["self", "whom", "number", "since"] "Asking.__init__" (defScope s_Asking_init) G.f_Asking_init cdv A outer s H E).nox (defBody s_Asking_init) (t_Asking_init G) := by
  exact pss_cons (ps_fld (pv 0) (pv 1) rfl)
      (pss_cons (ps_fld (pv 0) (pv 2) rfl)
      (pss_cons (ps_fld (pv 0) (pv 3) rfl)
      (pss_one (ps_fld (pv 0) pe_bl rfl))))
theorem bd_Asking_numbers (G : Pg K mg) {cdv : Value} {A : Around} {outer : List Env} {s : Shared} {H : Hp} {E : XK} (hr : Room 0 (A.deeper (envOfC "Asking.numbers" (defScope s_Asking_numbers) s.heap.objs.size G.f_Asking_numbers cdv))) :
    PSs (cxOf CX0 P w K mg base ["self"] "Asking.numbers" (defScope s_Asking_numbers) G.f_Asking_numbers cdv A outer s H E).nox (defBody s_Asking_numbers) (t_Asking_numbers G) := by
  exact pss_one (ps_ret (pe_lst (pa_cons (pe_fld (pv 0) rfl) (pa_cons (pe_fld (pv 0) rfl) (pa_cons (pe_fld (pv 0) rfl) (pa_cons (pe_ifExp (pt_val (pe_fld (pv 0) rfl)) pe_int pe_int) pa_nil))))))
theorem bd_Node_init (G : Pg K mg) {p_Node_forget : Sp} (o_Node_forget : FnOk P w K mg base CX0 1 G.f_Node_forget G.fd_Node_forget ["self", "count"] p_Node_forget) {cdv : Value} {A : Around} {outer : List Env} {s : Shared} {H : Hp} {E : XK} (hr : Room 1 (A.deeper (envOfC "Node.__init__" (defScope s_Node_init) s.heap.objs.size G.f_Node_init cdv))) :
    PSs (cxOf CX0 P w K mg base ["self", "me", "count"] "Node.__init__" (defScope s_Node_init) G.f_Node_init cdv A outer s H E).nox (defBody s_Node_init) (t_Node_init G p_Node_forget) := by
  exact pss_cons (ps_fld (pv 0) (pv 1) rfl)
      (pss_cons (ps_fld (pv 0) pe_bl rfl)
      (pss_cons (ps_fld (pv 0) pe_int rfl)
      (pss_cons (ps_fld (pv 0) pe_int rfl)
      (pss_one (ps_expr (pe_meth (pv 0) G.cl_Node G.m_Node_forget o_Node_forget hr G.b_Node_forget .nil pass0 (pa_cons (pv 2) pa_nil)))))))
theorem bd_Node_forget (G : Pg K mg) {cdv : Value} {A : Around} {outer : List Env} {s : Shared} {H : Hp} {E : XK} (hr : Room 0 (A.deeper (envOfC "Node.forget" (defScope s_Node_forget) s.heap.objs.size G.f_Node_forget cdv))) :
    PSs (cxOf CX0 P w K mg base ["self", "count", "k"] "Node.forget" (defScope s_Node_forget) G.f_Node_forget cdv A outer s H E).nox (defBody s_Node_forget) (t_Node_forget G) := by
  exact pss_cons (ps_fld (pv 0) pe_int rfl)
      (pss_cons (ps_fld (pv 0) (pe_lc (own := [("k", 2)]) (g := gName 2) (tt := tYes) rfl sc_Node_forget.nd (pi_range1 rfl G.b_range (pa_cons (pv 1) pa_nil)) (blkOk_by (own := [("k", 2)]) (N := ["self", "count", "k"]) (sc := defScope s_Node_forget) (by decide +kernel)) (fun _ _ _ _ _ => pg_name (i := 2) sc_Node_forget.nd rfl (Or.inl rfl)) (fun _ _ _ _ _ => pts_nil) (fun _ _ _ _ _ => (pe_tup (pa_cons pe_int (pa_cons (pe_glob rfl G.g_THERE ⟨_, rfl⟩) pa_nil))))) rfl)
      (pss_cons (ps_fld (pv 0) (pe_lc (own := [("k", 2)]) (g := gName 2) (tt := tYes) rfl sc_Node_forget.nd (pi_range1 rfl G.b_range (pa_cons (pv 1) pa_nil)) (blkOk_by (own := [("k", 2)]) (N := ["self", "count", "k"]) (sc := defScope s_Node_forget) (by decide +kernel)) (fun _ _ _ _ _ => pg_name (i := 2) sc_Node_forget.nd rfl (Or.inl rfl)) (fun _ _ _ _ _ => pts_nil) (fun _ _ _ _ _ => pe_int)) rfl)
      (pss_cons (ps_fld (pv 0) pe_non rfl)
      (pss_one (ps_fld (pv 0) pe_dnewK rfl)))))
theorem bd_Node_begin_anew (G : Pg K mg) {p_Node_forget : Sp} (o_Node_forget : FnOk P w K mg base CX0 1 G.f_Node_forget G.fd_Node_forget ["self", "count"] p_Node_forget) {p_Node_learn : Sp} (o_Node_learn : FnOk P w K mg base CX0 1 G.f_Node_learn G.fd_Node_learn ["self", "whom", "number", "how"] p_Node_learn) {cdv : Value} {A : Around} {outer : List Env} {s : Shared} {H : Hp} {E : XK} (hr : Room 1 (A.deeper (envOfC "Node.begin_anew" (defScope s_Node_begin_anew) s.heap.objs.size G.f_Node_begin_anew cdv))) :
    PSs (cxOf CX0 P w K mg base ["self"] "Node.begin_anew" (defScope s_Node_begin_anew) G.f_Node_begin_anew cdv A outer s H E).nox (defBody s_Node_begin_anew) (t_Node_begin_anew G p_Node_forget p_Node_learn) := by
  exact pss_cons (ps_expr (pe_meth (pv 0) G.cl_Node G.m_Node_forget o_Node_forget hr G.b_Node_forget .nil pass0 (pa_cons (pe_callB call_len_seq (by rfl) G.b_len PySem.boot_len (pa_cons (pe_fld (pv 0) rfl) pa_nil)) pa_nil)))
      (pss_cons (ps_fld (pv 0) pe_bl rfl)
      (pss_cons (ps_fldaug (pv 0) pe_int in_add)
      (pss_one (ps_expr (pe_meth (pv 0) G.cl_Node G.m_Node_learn o_Node_learn hr G.b_Node_learn .nil pass0 (pa_cons (pe_fld (pv 0) rfl) (pa_cons (pe_fld (pv 0) rfl) (pa_cons (pe_glob rfl G.g_THERE ⟨_, rfl⟩) pa_nil))))))))
theorem bd_Node_has_passed (G : Pg K mg) {cdv : Value} {A : Around} {outer : List Env} {s : Shared} {H : Hp} {E : XK} (hr : Room 0 (A.deeper (envOfC "Node.has_passed" (defScope s_Node_has_passed) s.heap.objs.size G.f_Node_has_passed cdv))) :
    PSs (cxOf CX0 P w K mg base ["self", "then", "much"] "Node.has_passed" (defScope s_Node_has_passed) G.f_Node_has_passed cdv A outer s H E).nox (defBody s_Node_has_passed) (t_Node_has_passed G) := by
  exact pss_one (ps_ret (pe_cmpR op_le (pe_op op_add (pv 1) (pv 2)) (pe_fld (pv 0) rfl) (nomark _)))
theorem bd_Node_learn (G : Pg K mg) {cdv : Value} {A : Around} {outer : List Env} {s : Shared} {H : Hp} {E : XK} (hr : Room 0 (A.deeper (envOfC "Node.learn" (defScope s_Node_learn) s.heap.objs.size G.f_Node_learn cdv))) :
    PSs (cxOf CX0 P w K mg base ["self", "whom", "number", "how"] "Node.learn" (defScope s_Node_learn) G.f_Node_learn cdv A outer s H E).nox (defBody s_Node_learn) (t_Node_learn G) := by
  exact pss_cons (ps_asg (pe_tup (pa_cons (pv 2) (pa_cons (pv 3) pa_nil))) (pg_sub (pe_fld (pv 0) rfl) (pv 1) set_list))
      (pss_one (ps_asg (pe_fld (pv 0) rfl) (pg_sub (pe_fld (pv 0) rfl) (pv 1) set_list)))
theorem bd_Node_hear (G : Pg K mg) {p_Node_hear_of_itself : Sp} (o_Node_hear_of_itself : FnOk P w K mg base CX0 2 G.f_Node_hear_of_itself G.fd_Node_hear_of_itself ["self", "fact"] p_Node_hear_of_itself) {p_counts_for_more : Sp} (o_counts_for_more : FnOk P w K mg base CX0 1 G.f_counts_for_more G.fd_counts_for_more ["fact", "other"] p_counts_for_more) {p_Node_learn : Sp} (o_Node_learn : FnOk P w K mg base CX0 1 G.f_Node_learn G.fd_Node_learn ["self", "whom", "number", "how"] p_Node_learn) {cdv : Value} {A : Around} {outer : List Env} {s : Shared} {H : Hp} {E : XK} (hr : Room 2 (A.deeper (envOfC "Node.hear" (defScope s_Node_hear) s.heap.objs.size G.f_Node_hear cdv))) :
    PSs (cxOf CX0 P w K mg base ["self", "facts", "whom", "fact"] "Node.hear" (defScope s_Node_hear) G.f_Node_hear cdv A outer s H E).nox (defBody s_Node_hear) (t_Node_hear G p_Node_hear_of_itself p_counts_for_more p_Node_learn) := by
  exact pss_one (ps_for PassesOwn.never rfl (pi_range1 rfl G.b_range (pa_cons (pe_callB call_len_seq (by rfl) G.b_len PySem.boot_len (pa_cons (pv 1) pa_nil)) pa_nil)) (pg_name (i := 2) sc_Node_hear.nd rfl (Or.inl rfl)) (pss_cons (ps_set (i := 3) sc_Node_hear.nd rfl (Or.inl rfl) (pe_ix ix_list (pv 1) (pv 2) (fun _ _ => rfl)))
      (pss_one (ps_if (pt_cmpR op_eq (pv 2) (pe_fld (pv 0) rfl) (nomark _)) (pss_one (ps_expr (pe_meth (pv 0) G.cl_Node G.m_Node_hear_of_itself o_Node_hear_of_itself hr G.b_Node_hear_of_itself .nil pass0 (pa_cons (pv 3) pa_nil)))) (pss_one (ps_if (pt_val (pe_call o_counts_for_more (hr.mono (by decide)) rfl G.g_counts_for_more G.k_counts_for_more G.b_counts_for_more .nil pass0 (pa_cons (pv 3) (pa_cons (pe_ix ix_list (pe_fld (pv 0) rfl) (pv 2) (fun _ _ => rfl)) pa_nil)))) (pss_one (ps_expr (pe_meth (pv 0) G.cl_Node G.m_Node_learn o_Node_learn (hr.mono (by decide)) G.b_Node_learn .nil pass0 (pa_cons (pv 2) (pa_cons (pe_ix ix_tup (pv 3) pe_int (fun _ _ => rfl)) (pa_cons (pe_ix ix_tup (pv 3) pe_int (fun _ _ => rfl)) pa_nil)))))) (pss_nil)))))))
theorem bd_Node_hear_of_itself (G : Pg K mg) {p_Node_learn : Sp} (o_Node_learn : FnOk P w K mg base CX0 1 G.f_Node_learn G.fd_Node_learn ["self", "whom", "number", "how"] p_Node_learn) {cdv : Value} {A : Around} {outer : List Env} {s : Shared} {H : Hp} {E : XK} (hr : Room 1 (A.deeper (envOfC "Node.hear_of_itself" (defScope s_Node_hear_of_itself) s.heap.objs.size G.f_Node_hear_of_itself cdv))) :
    PSs (cxOf CX0 P w K mg base ["self", "fact"] "Node.hear_of_itself" (defScope s_Node_hear_of_itself) G.f_Node_hear_of_itself cdv A outer s H E).nox (defBody s_Node_hear_of_itself) (t_Node_hear_of_itself G p_Node_learn) := by
  exact pss_one (ps_if (PW.pt (pw_and (pt_cmpR op_ne (pe_ix ix_tup (pv 1) pe_int (fun _ _ => rfl)) (pe_glob rfl G.g_THERE ⟨_, rfl⟩) (nomark _)) (pw_and1 (pt_cmpR op_ge (pe_ix ix_tup (pv 1) pe_int (fun _ _ => rfl)) (pe_fld (pv 0) rfl) (nomark _))))) (pss_cons (ps_fld (pv 0) (pe_op op_add (pe_ix ix_tup (pv 1) pe_int (fun _ _ => rfl)) pe_int) rfl)
      (pss_one (ps_expr (pe_meth (pv 0) G.cl_Node G.m_Node_learn o_Node_learn hr G.b_Node_learn .nil pass0 (pa_cons (pe_fld (pv 0) rfl) (pa_cons (pe_fld (pv 0) rfl) (pa_cons (pe_glob rfl G.g_THERE ⟨_, rfl⟩) pa_nil))))))) (pss_nil))
theorem bd_Node_give_up (G : Pg K mg) {p_Node_has_passed : Sp} (o_Node_has_passed : FnOk P w K mg base CX0 1 G.f_Node_has_passed G.fd_Node_has_passed ["self", "then", "much"] p_Node_has_passed) {p_Node_learn : Sp} (o_Node_learn : FnOk P w K mg base CX0 1 G.f_Node_learn G.fd_Node_learn ["self", "whom", "number", "how"] p_Node_learn) {cdv : Value} {A : Around} {outer : List Env} {s : Shared} {H : Hp} {E : XK} (hr : Room 1 (A.deeper (envOfC "Node.give_up" (defScope s_Node_give_up) s.heap.objs.size G.f_Node_give_up cdv))) :
    PSs (cxOf CX0 P w K mg base ["self", "patience", "whom", "fact"] "Node.give_up" (defScope s_Node_give_up) G.f_Node_give_up cdv A outer s H E).nox (defBody s_Node_give_up) (t_Node_give_up G p_Node_has_passed p_Node_learn) := by
  exact pss_one (ps_for PassesOwn.never rfl (pi_range1 rfl G.b_range (pa_cons (pe_callB call_len_seq (by rfl) G.b_len PySem.boot_len (pa_cons (pe_fld (pv 0) rfl) pa_nil)) pa_nil)) (pg_name (i := 2) sc_Node_give_up.nd rfl (Or.inl rfl)) (pss_cons (ps_set (i := 3) sc_Node_give_up.nd rfl (Or.inl rfl) (pe_ix ix_list (pe_fld (pv 0) rfl) (pv 2) (fun _ _ => rfl)))
      (pss_one (ps_if (PW.pt (pw_and (pt_cmpR op_eq (pe_ix ix_tup (pv 3) pe_int (fun _ _ => rfl)) (pe_glob rfl G.g_SUSPECTED ⟨_, rfl⟩) (nomark _)) (pw_and1 (pt_val (pe_meth (pv 0) G.cl_Node G.m_Node_has_passed o_Node_has_passed hr G.b_Node_has_passed .nil pass0 (pa_cons (pe_ix ix_list (pe_fld (pv 0) rfl) (pv 2) (fun _ _ => rfl)) (pa_cons (pv 1) pa_nil))))))) (pss_one (ps_expr (pe_meth (pv 0) G.cl_Node G.m_Node_learn o_Node_learn hr G.b_Node_learn .nil pass0 (pa_cons (pv 2) (pa_cons (pe_ix ix_tup (pv 3) pe_int (fun _ _ => rfl)) (pa_cons (pe_glob rfl G.g_GONE ⟨_, rfl⟩) pa_nil)))))) (pss_nil)))))
theorem bd_Node_numbers (G : Pg K mg) {p_one_behind_another : Sp} (o_one_behind_another : FnOk P w K mg base CX0 1 G.f_one_behind_another G.fd_one_behind_another ["parts"] p_one_behind_another) {p_Asking_numbers : Sp} (o_Asking_numbers : FnOk P w K mg base CX0 1 G.f_Asking_numbers G.fd_Asking_numbers ["self"] p_Asking_numbers) {cdv : Value} {A : Around} {outer : List Env} {s : Shared} {H : Hp} {E : XK} (hr : Room 1 (A.deeper (envOfC "Node.numbers" (defScope s_Node_numbers) s.heap.objs.size G.f_Node_numbers cdv))) :
    PSs (cxOf CX0 P w K mg base ["self", "told", "number", "errand"] "Node.numbers" (defScope s_Node_numbers) G.f_Node_numbers cdv A outer s H E).nox (defBody s_Node_numbers) (t_Node_numbers G p_one_behind_another p_Asking_numbers) := by
  exact pss_cons (ps_set (i := 1) sc_Node_numbers.nd rfl (Or.inl rfl) (pe_lst (pa_cons (pe_ifExp (pt_val (pe_fld (pv 0) rfl)) pe_int pe_int) (pa_cons (pe_fld (pv 0) rfl) (pa_cons (pe_fld (pv 0) rfl) (pa_cons (pe_fld (pv 0) rfl) pa_nil))))))
      (pss_cons (ps_expr (pe_bm PySem.F.plainAttrs_list PySem.F.slot_list_extend PySem.F.type_list_extend mt_extend (pv 1) (pa_cons (pe_call o_one_behind_another hr rfl G.g_one_behind_another G.k_one_behind_another G.b_one_behind_another .nil pass0 (pa_cons (pe_fld (pv 0) rfl) pa_nil)) pa_nil)))
      (pss_cons (ps_expr (pe_bm PySem.F.plainAttrs_list PySem.F.slot_list_extend PySem.F.type_list_extend mt_extend (pv 1) (pa_cons (pe_fld (pv 0) rfl) pa_nil)))
      (pss_cons (ps_if (pt_cmpR op_isN (pe_fld (pv 0) rfl) pe_non (nomark _)) (pss_one (ps_expr (pe_bm PySem.F.plainAttrs_list PySem.F.slot_list_append PySem.F.type_list_append mt_append (pv 1) (pa_cons pe_int pa_nil)))) (pss_cons (ps_expr (pe_bm PySem.F.plainAttrs_list PySem.F.slot_list_append PySem.F.type_list_append mt_append (pv 1) (pa_cons pe_int pa_nil)))
      (pss_one (ps_expr (pe_bm PySem.F.plainAttrs_list PySem.F.slot_list_extend PySem.F.type_list_extend mt_extend (pv 1) (pa_cons (pe_meth0 (pe_fld (pv 0) rfl) G.cl_Asking G.m_Asking_numbers o_Asking_numbers hr G.b_Asking_numbers .nil pass0) pa_nil))))))
      (pss_cons (ps_expr (pe_bm PySem.F.plainAttrs_list PySem.F.slot_list_append PySem.F.type_list_append mt_append (pv 1) (pa_cons (pe_callB call_lenD (by rfl) G.b_len PySem.boot_len (pa_cons (pe_fld (pv 0) rfl) pa_nil)) pa_nil)))
      (pss_cons (ps_lock (ps_for PassesOwn.never rfl (pi_keys (pe_fld (pv 0) rfl)) (pg_name (i := 2) sc_Node_numbers.nd rfl (Or.inl rfl)) (pss_cons (ps_set (i := 3) sc_Node_numbers.nd rfl (Or.inl rfl) (pe_dget (hu_of hr) (pe_fld (pv 0) rfl) (pv 2) (fun _ _ => rfl)))
      (pss_one (ps_expr (pe_bm PySem.F.plainAttrs_list PySem.F.slot_list_extend PySem.F.type_list_extend mt_extend (pv 1) (pa_cons (pe_lst (pa_cons (pv 2) (pa_cons (pe_ix ix_tup (pv 3) pe_int (fun _ _ => rfl)) (pa_cons (pe_ix ix_tup (pv 3) pe_int (fun _ _ => rfl)) pa_nil)))) pa_nil)))))))
      (pss_one (ps_ret (pv 1))))))))
theorem bd_Node_seen (G : Pg K mg) {cdv : Value} {A : Around} {outer : List Env} {s : Shared} {H : Hp} {E : XK} (hr : Room 0 (A.deeper (envOfC "Node.seen" (defScope s_Node_seen) s.heap.objs.size G.f_Node_seen cdv))) :
    PSs (cxOf CX0 P w K mg base ["self", "whom"] "Node.seen" (defScope s_Node_seen) G.f_Node_seen cdv A outer s H E).nox (defBody s_Node_seen) (t_Node_seen G) := by
  exact pss_one (ps_ret (pe_lc (own := [("whom", 1)]) (g := gName 1) (tt := (tTest (tOp rNe (tOp (rIxT K) (tOp (rIxL K) (tFld K (tVar 0) "facts") (tVar 1)) (tC (.int 1))) (tC (.int 2))))) rfl sc_Node_seen.nd (pi_range1 rfl G.b_range (pa_cons (pe_callB call_len_seq (by rfl) G.b_len PySem.boot_len (pa_cons (pe_fld (pv 0) rfl) pa_nil)) pa_nil)) (blkOk_by (own := [("whom", 1)]) (N := ["self", "whom"]) (sc := defScope s_Node_seen) (by decide +kernel)) (fun _ _ _ _ _ => pg_name (i := 1) sc_Node_seen.nd rfl (Or.inl rfl)) (fun _ _ _ _ _ => pts_one (pt_cmpR op_ne (pe_ix ix_tup (pe_ix ix_list (pe_fld (pv 0) rfl) (pv 1) (fun _ _ => rfl)) pe_int (fun _ _ => rfl)) (pe_glob rfl G.g_GONE ⟨_, rfl⟩) (nomark _))) (fun _ _ _ _ _ => (pv 1))))
theorem bd_World_init (G : Pg K mg) {p_Node_init : Sp} (o_Node_init : FnOk P w K mg base CX0 2 G.f_Node_init G.fd_Node_init ["self", "me", "count"] p_Node_init) {cdv : Value} {A : Around} {outer : List Env} {s : Shared} {H : Hp} {E : XK} (hr : Room 3 (A.deeper (envOfC "World.__init__" (defScope s_World_init) s.heap.objs.size G.f_World_init cdv))) :
    PSs (cxOf CX0 P w K mg base ["self", "count", "wait", "patience", "k"] "World.__init__" (defScope s_World_init) G.f_World_init cdv A outer s H E).nox (defBody s_World_init) (t_World_init G p_Node_init) := by
  exact pss_cons (ps_fld (pv 0) (pv 2) rfl)
      (pss_cons (ps_fld (pv 0) (pv 3) rfl)
      (pss_cons (ps_fld (pv 0) (pe_lc (own := [("k", 4)]) (g := gName 4) (tt := tYes) rfl sc_World_init.nd (pi_range1 rfl G.b_range (pa_cons (pv 1) pa_nil)) (blkOk_by (own := [("k", 4)]) (N := ["self", "count", "wait", "patience", "k"]) (sc := defScope s_World_init) (by decide +kernel)) (fun _ _ _ _ _ => pg_name (i := 4) sc_World_init.nd rfl (Or.inl rfl)) (fun _ _ _ _ _ => pts_nil) (fun _ _ _ _ _ => (pe_make G.mk_Node o_Node_init hr rfl G.g_Node G.b_Node_init .nil pass0 (pa_cons (pv 4) (pa_cons (pv 1) pa_nil))))) rfl)
      (pss_cons (ps_fld (pv 0) (pe_lst pa_nil) rfl)
      (pss_one (ps_fld (pv 0) (pe_lst pa_nil) rfl)))))
theorem bd_World_has_node (G : Pg K mg) {cdv : Value} {A : Around} {outer : List Env} {s : Shared} {H : Hp} {E : XK} (hr : Room 0 (A.deeper (envOfC "World.has_node" (defScope s_World_has_node) s.heap.objs.size G.f_World_has_node cdv))) :
    PSs (cxOf CX0 P w K mg base ["self", "k"] "World.has_node" (defScope s_World_has_node) G.f_World_has_node cdv A outer s H E).nox (defBody s_World_has_node) (t_World_has_node G) := by
  exact pss_one (ps_ret (pe_chain op_le op_lt pe_int (pv 1) (pe_callB call_len_seq (by rfl) G.b_len PySem.boot_len (pa_cons (pe_fld (pv 0) rfl) pa_nil))))
theorem bd_World_has_letter (G : Pg K mg) {cdv : Value} {A : Around} {outer : List Env} {s : Shared} {H : Hp} {E : XK} (hr : Room 0 (A.deeper (envOfC "World.has_letter" (defScope s_World_has_letter) s.heap.objs.size G.f_World_has_letter cdv))) :
    PSs (cxOf CX0 P w K mg base ["self", "k"] "World.has_letter" (defScope s_World_has_letter) G.f_World_has_letter cdv A outer s H E).nox (defBody s_World_has_letter) (t_World_has_letter G) := by
  exact pss_one (ps_ret (pe_chain op_le op_lt pe_int (pv 1) (pe_callB call_len_seq (by rfl) G.b_len PySem.boot_len (pa_cons (pe_fld (pv 0) rfl) pa_nil))))
theorem bd_World_send (G : Pg K mg) {p_Letter_init : Sp} (o_Letter_init : FnOk P w K mg base CX0 1 G.f_Letter_init G.fd_Letter_init ["self", "kind", "to", "sender", "number", "whom", "facts"] p_Letter_init) {cdv : Value} {A : Around} {outer : List Env} {s : Shared} {H : Hp} {E : XK} (hr : Room 2 (A.deeper (envOfC "World.send" (defScope s_World_send) s.heap.objs.size G.f_World_send cdv))) :
    PSs (cxOf CX0 P w K mg base ["self", "node", "kind", "to", "number", "whom"] "World.send" (defScope s_World_send) G.f_World_send cdv A outer s H E).nox (defBody s_World_send) (t_World_send G p_Letter_init) := by
  exact pss_one (ps_if (pt_cmpR op_lt (pe_callB call_len_seq (by rfl) G.b_len PySem.boot_len (pa_cons (pe_fld (pv 0) rfl) pa_nil)) (pe_glob rfl G.g_ROOM ⟨_, rfl⟩) (nomark _)) (pss_one (ps_expr (pe_bm PySem.F.plainAttrs_list PySem.F.slot_list_append PySem.F.type_list_append mt_append (pe_fld (pv 0) rfl) (pa_cons (pe_make G.mk_Letter o_Letter_init hr rfl G.g_Letter G.b_Letter_init .nil pass0 (pa_cons (pv 2) (pa_cons (pv 3) (pa_cons (pe_fld (pv 1) rfl) (pa_cons (pv 4) (pa_cons (pv 5) (pa_cons (pe_fld (pv 1) rfl) pa_nil))))))) pa_nil)))) (pss_nil))
theorem bd_World_probe (G : Pg K mg) {p_Asking_init : Sp} (o_Asking_init : FnOk P w K mg base CX0 1 G.f_Asking_init G.fd_Asking_init ["self", "whom", "number", "since"] p_Asking_init) {p_World_send : Sp} (o_World_send : FnOk P w K mg base CX0 3 G.f_World_send G.fd_World_send ["self", "node", "kind", "to", "number", "whom"] p_World_send) {p_World_has_node : Sp} (o_World_has_node : FnOk P w K mg base CX0 1 G.f_World_has_node G.fd_World_has_node ["self", "k"] p_World_has_node) {cdv : Value} {A : Around} {outer : List Env} {s : Shared} {H : Hp} {E : XK} (hr : Room 3 (A.deeper (envOfC "World.probe" (defScope s_World_probe) s.heap.objs.size G.f_World_probe cdv))) :
    PSs (cxOf CX0 P w K mg base ["self", "k", "whom", "node"] "World.probe" (defScope s_World_probe) G.f_World_probe cdv A outer s H E).nox (defBody s_World_probe) (t_World_probe G p_Asking_init p_World_send p_World_has_node) := by
  exact pss_cons (ps_if (PW.pt (pw_or (pt_not (pt_val (pe_meth (pv 0) G.cl_World G.m_World_has_node o_World_has_node (hr.mono (by decide)) G.b_World_has_node .nil pass0 (pa_cons (pv 1) pa_nil)))) (pw_or (pt_not (pt_val (pe_meth (pv 0) G.cl_World G.m_World_has_node o_World_has_node (hr.mono (by decide)) G.b_World_has_node .nil pass0 (pa_cons (pv 2) pa_nil)))) (pw_or1 (pt_cmpR op_eq (pv 1) (pv 2) (nomark _)))))) (pss_one (ps_ret (pe_glob rfl G.g_REFUSED ⟨_, rfl⟩))) (pss_nil))
      (pss_cons (ps_set (i := 3) sc_World_probe.nd rfl (Or.inl rfl) (pe_ix ix_list (pe_fld (pv 0) rfl) (pv 1) (fun _ _ => rfl)))
      (pss_cons (ps_if (pt_not (pt_val (pe_fld (pv 3) rfl))) (pss_one (ps_ret (pe_glob rfl G.g_HAS_STOPPED ⟨_, rfl⟩))) (pss_nil))
      (pss_cons (ps_fldaug (pv 3) pe_int in_add)
      (pss_cons (ps_fld (pv 3) (pe_make G.mk_Asking o_Asking_init (hr.mono (by decide)) rfl G.g_Asking G.b_Asking_init .nil pass0 (pa_cons (pv 2) (pa_cons (pe_fld (pv 3) rfl) (pa_cons (pe_fld (pv 3) rfl) pa_nil)))) rfl)
      (pss_cons (ps_expr (pe_meth (pv 0) G.cl_World G.m_World_send o_World_send hr G.b_World_send .nil pass0 (pa_cons (pv 3) (pa_cons (pe_glob rfl G.g_ASK ⟨_, rfl⟩) (pa_cons (pv 2) (pa_cons (pe_fld (pv 3) rfl) (pa_cons (pe_glob rfl G.g_NOT_TOLD ⟨_, rfl⟩) pa_nil)))))))
      (pss_one (ps_ret (pe_fld (pv 3) rfl))))))))
theorem bd_World_tick (G : Pg K mg) {p_Node_give_up : Sp} (o_Node_give_up : FnOk P w K mg base CX0 2 G.f_Node_give_up G.fd_Node_give_up ["self", "patience"] p_Node_give_up) {p_World_has_node : Sp} (o_World_has_node : FnOk P w K mg base CX0 1 G.f_World_has_node G.fd_World_has_node ["self", "k"] p_World_has_node) {p_World_wait_on : Sp} (o_World_wait_on : FnOk P w K mg base CX0 5 G.f_World_wait_on G.fd_World_wait_on ["self", "node"] p_World_wait_on) {cdv : Value} {A : Around} {outer : List Env} {s : Shared} {H : Hp} {E : XK} (hr : Room 5 (A.deeper (envOfC "World.tick" (defScope s_World_tick) s.heap.objs.size G.f_World_tick cdv))) :
    PSs (cxOf CX0 P w K mg base ["self", "k", "node"] "World.tick" (defScope s_World_tick) G.f_World_tick cdv A outer s H E).nox (defBody s_World_tick) (t_World_tick G p_Node_give_up p_World_has_node p_World_wait_on) := by
  exact pss_cons (ps_if (pt_not (pt_val (pe_meth (pv 0) G.cl_World G.m_World_has_node o_World_has_node (hr.mono (by decide)) G.b_World_has_node .nil pass0 (pa_cons (pv 1) pa_nil)))) (pss_one (ps_ret (pe_glob rfl G.g_REFUSED ⟨_, rfl⟩))) (pss_nil))
      (pss_cons (ps_set (i := 2) sc_World_tick.nd rfl (Or.inl rfl) (pe_ix ix_list (pe_fld (pv 0) rfl) (pv 1) (fun _ _ => rfl)))
      (pss_cons (ps_if (pt_not (pt_val (pe_fld (pv 2) rfl))) (pss_one (ps_ret (pe_glob rfl G.g_HAS_STOPPED ⟨_, rfl⟩))) (pss_nil))
      (pss_cons (ps_fldaug (pv 2) pe_int in_add)
      (pss_cons (ps_expr (pe_meth (pv 2) G.cl_Node G.m_Node_give_up o_Node_give_up (hr.mono (by decide)) G.b_Node_give_up .nil pass0 (pa_cons (pe_fld (pv 0) rfl) pa_nil)))
      (pss_cons (ps_if (pt_cmpR op_notN (pe_fld (pv 2) rfl) pe_non (nomark _)) (pss_one (ps_expr (pe_meth (pv 0) G.cl_World G.m_World_wait_on o_World_wait_on hr G.b_World_wait_on .nil pass0 (pa_cons (pv 2) pa_nil)))) (pss_nil))
      (pss_one (ps_ret (pe_fld (pv 2) rfl))))))))
theorem bd_World_wait_on (G : Pg K mg) {p_Node_has_passed : Sp} (o_Node_has_passed : FnOk P w K mg base CX0 1 G.f_Node_has_passed G.fd_Node_has_passed ["self", "then", "much"] p_Node_has_passed) {p_World_call_for_help : Sp} (o_World_call_for_help : FnOk P w K mg base CX0 4 G.f_World_call_for_help G.fd_World_call_for_help ["self", "node", "asking"] p_World_call_for_help) {p_World_blame : Sp} (o_World_blame : FnOk P w K mg base CX0 2 G.f_World_blame G.fd_World_blame ["self", "node", "whom"] p_World_blame) {cdv : Value} {A : Around} {outer : List Env} {s : Shared} {H : Hp} {E : XK} (hr : Room 4 (A.deeper (envOfC "World.wait_on" (defScope s_World_wait_on) s.heap.objs.size G.f_World_wait_on cdv))) :
    PSs (cxOf CX0 P w K mg base ["self", "node", "asking"] "World.wait_on" (defScope s_World_wait_on) G.f_World_wait_on cdv A outer s H E).nox (defBody s_World_wait_on) (t_World_wait_on G p_Node_has_passed p_World_call_for_help p_World_blame) := by
  exact pss_cons (ps_set (i := 2) sc_World_wait_on.nd rfl (Or.inl rfl) (pe_fld (pv 1) rfl))
      (pss_one (ps_if (PW.pt (pw_and (pt_not (pt_val (pe_fld (pv 2) rfl))) (pw_and1 (pt_val (pe_meth (pv 1) G.cl_Node G.m_Node_has_passed o_Node_has_passed (hr.mono (by decide)) G.b_Node_has_passed .nil pass0 (pa_cons (pe_fld (pv 2) rfl) (pa_cons (pe_fld (pv 0) rfl) pa_nil))))))) (pss_cons (ps_fld (pv 2) pe_bl rfl)
      (pss_one (ps_expr (pe_meth (pv 0) G.cl_World G.m_World_call_for_help o_World_call_for_help hr G.b_World_call_for_help .nil pass0 (pa_cons (pv 1) (pa_cons (pv 2) pa_nil)))))) (pss_one (ps_if (pt_val (pe_meth (pv 1) G.cl_Node G.m_Node_has_passed o_Node_has_passed (hr.mono (by decide)) G.b_Node_has_passed .nil pass0 (pa_cons (pe_fld (pv 2) rfl) (pa_cons (pe_op op_mul pe_int (pe_fld (pv 0) rfl)) pa_nil)))) (pss_cons (ps_fld (pv 1) pe_non rfl)
      (pss_one (ps_expr (pe_meth (pv 0) G.cl_World G.m_World_blame o_World_blame (hr.mono (by decide)) G.b_World_blame .nil pass0 (pa_cons (pv 1) (pa_cons (pe_fld (pv 2) rfl) pa_nil)))))) (pss_nil)))))
theorem bd_World_call_for_help (G : Pg K mg) {p_World_send : Sp} (o_World_send : FnOk P w K mg base CX0 3 G.f_World_send G.fd_World_send ["self", "node", "kind", "to", "number", "whom"] p_World_send) {cdv : Value} {A : Around} {outer : List Env} {s : Shared} {H : Hp} {E : XK} (hr : Room 3 (A.deeper (envOfC "World.call_for_help" (defScope s_World_call_for_help) s.heap.objs.size G.f_World_call_for_help cdv))) :
    PSs (cxOf CX0 P w K mg base ["self", "node", "asking", "k"] "World.call_for_help" (defScope s_World_call_for_help) G.f_World_call_for_help cdv A outer s H E).nox (defBody s_World_call_for_help) (t_World_call_for_help G p_World_send) := by
  exact pss_one (ps_for PassesOwn.never rfl (pi_range1 rfl G.b_range (pa_cons (pe_callB call_len_seq (by rfl) G.b_len PySem.boot_len (pa_cons (pe_fld (pv 0) rfl) pa_nil)) pa_nil)) (pg_name (i := 3) sc_World_call_for_help.nd rfl (Or.inl rfl)) (pss_one (ps_if (PW.pt (pw_and (pt_cmpR op_ne (pv 3) (pe_fld (pv 1) rfl) (nomark _)) (pw_and1 (pt_cmpR op_ne (pv 3) (pe_fld (pv 2) rfl) (nomark _))))) (pss_one (ps_expr (pe_meth (pv 0) G.cl_World G.m_World_send o_World_send hr G.b_World_send .nil pass0 (pa_cons (pv 1) (pa_cons (pe_glob rfl G.g_HELP ⟨_, rfl⟩) (pa_cons (pv 3) (pa_cons (pe_fld (pv 2) rfl) (pa_cons (pe_fld (pv 2) rfl) pa_nil)))))))) (pss_nil))))
theorem bd_World_blame (G : Pg K mg) {p_Node_learn : Sp} (o_Node_learn : FnOk P w K mg base CX0 1 G.f_Node_learn G.fd_Node_learn ["self", "whom", "number", "how"] p_Node_learn) {cdv : Value} {A : Around} {outer : List Env} {s : Shared} {H : Hp} {E : XK} (hr : Room 1 (A.deeper (envOfC "World.blame" (defScope s_World_blame) s.heap.objs.size G.f_World_blame cdv))) :
    PSs (cxOf CX0 P w K mg base ["self", "node", "whom", "fact"] "World.blame" (defScope s_World_blame) G.f_World_blame cdv A outer s H E).nox (defBody s_World_blame) (t_World_blame G p_Node_learn) := by
  exact pss_cons (ps_set (i := 3) sc_World_blame.nd rfl (Or.inl rfl) (pe_ix ix_list (pe_fld (pv 1) rfl) (pv 2) (fun _ _ => rfl)))
      (pss_one (ps_if (pt_cmpR op_eq (pe_ix ix_tup (pv 3) pe_int (fun _ _ => rfl)) (pe_glob rfl G.g_THERE ⟨_, rfl⟩) (nomark _)) (pss_cons (ps_expr (pe_meth (pv 1) G.cl_Node G.m_Node_learn o_Node_learn hr G.b_Node_learn .nil pass0 (pa_cons (pv 2) (pa_cons (pe_ix ix_tup (pv 3) pe_int (fun _ _ => rfl)) (pa_cons (pe_glob rfl G.g_SUSPECTED ⟨_, rfl⟩) pa_nil)))))
      (pss_one (ps_expr (pe_bm PySem.F.plainAttrs_list PySem.F.slot_list_append PySem.F.type_list_append mt_append (pe_fld (pv 0) rfl) (pa_cons (pe_tup (pa_cons (pe_fld (pv 1) rfl) (pa_cons (pv 2) (pa_cons (pe_ix ix_tup (pv 3) pe_int (fun _ _ => rfl)) pa_nil)))) pa_nil))))) (pss_nil)))
theorem bd_World_take (G : Pg K mg) {p_World_hand_over : Sp} (o_World_hand_over : FnOk P w K mg base CX0 5 G.f_World_hand_over G.fd_World_hand_over ["self", "letter"] p_World_hand_over) {p_World_has_letter : Sp} (o_World_has_letter : FnOk P w K mg base CX0 1 G.f_World_has_letter G.fd_World_has_letter ["self", "k"] p_World_has_letter) {cdv : Value} {A : Around} {outer : List Env} {s : Shared} {H : Hp} {E : XK} (hr : Room 5 (A.deeper (envOfC "World.take" (defScope s_World_take) s.heap.objs.size G.f_World_take cdv))) :
    PSs (cxOf CX0 P w K mg base ["self", "k", "letter"] "World.take" (defScope s_World_take) G.f_World_take cdv A outer s H E).nox (defBody s_World_take) (t_World_take G p_World_hand_over p_World_has_letter) := by
  exact pss_cons (ps_if (pt_not (pt_val (pe_meth (pv 0) G.cl_World G.m_World_has_letter o_World_has_letter (hr.mono (by decide)) G.b_World_has_letter .nil pass0 (pa_cons (pv 1) pa_nil)))) (pss_one (ps_ret (pe_glob rfl G.g_REFUSED ⟨_, rfl⟩))) (pss_nil))
      (pss_cons (ps_set (i := 2) sc_World_take.nd rfl (Or.inl rfl) (pe_bm PySem.F.plainAttrs_list PySem.F.slot_list_pop PySem.F.type_list_pop mt_popAt (pe_fld (pv 0) rfl) (pa_cons (pv 1) pa_nil)))
      (pss_one (ps_ret (pe_meth (pv 0) G.cl_World G.m_World_hand_over o_World_hand_over hr G.b_World_hand_over .nil pass0 (pa_cons (pv 2) pa_nil)))))
theorem bd_World_keep (G : Pg K mg) {p_World_hand_over : Sp} (o_World_hand_over : FnOk P w K mg base CX0 5 G.f_World_hand_over G.fd_World_hand_over ["self", "letter"] p_World_hand_over) {p_World_has_letter : Sp} (o_World_has_letter : FnOk P w K mg base CX0 1 G.f_World_has_letter G.fd_World_has_letter ["self", "k"] p_World_has_letter) {cdv : Value} {A : Around} {outer : List Env} {s : Shared} {H : Hp} {E : XK} (hr : Room 5 (A.deeper (envOfC "World.keep" (defScope s_World_keep) s.heap.objs.size G.f_World_keep cdv))) :
    PSs (cxOf CX0 P w K mg base ["self", "k"] "World.keep" (defScope s_World_keep) G.f_World_keep cdv A outer s H E).nox (defBody s_World_keep) (t_World_keep G p_World_hand_over p_World_has_letter) := by
  exact pss_cons (ps_if (pt_not (pt_val (pe_meth (pv 0) G.cl_World G.m_World_has_letter o_World_has_letter (hr.mono (by decide)) G.b_World_has_letter .nil pass0 (pa_cons (pv 1) pa_nil)))) (pss_one (ps_ret (pe_glob rfl G.g_REFUSED ⟨_, rfl⟩))) (pss_nil))
      (pss_one (ps_ret (pe_meth (pv 0) G.cl_World G.m_World_hand_over o_World_hand_over hr G.b_World_hand_over .nil pass0 (pa_cons (pe_ix ix_list (pe_fld (pv 0) rfl) (pv 1) (fun _ _ => rfl)) pa_nil))))
theorem bd_World_lose (G : Pg K mg) {p_World_has_letter : Sp} (o_World_has_letter : FnOk P w K mg base CX0 1 G.f_World_has_letter G.fd_World_has_letter ["self", "k"] p_World_has_letter) {cdv : Value} {A : Around} {outer : List Env} {s : Shared} {H : Hp} {E : XK} (hr : Room 1 (A.deeper (envOfC "World.lose" (defScope s_World_lose) s.heap.objs.size G.f_World_lose cdv))) :
    PSs (cxOf CX0 P w K mg base ["self", "k"] "World.lose" (defScope s_World_lose) G.f_World_lose cdv A outer s H E).nox (defBody s_World_lose) (t_World_lose G p_World_has_letter) := by
  exact pss_cons (ps_if (pt_not (pt_val (pe_meth (pv 0) G.cl_World G.m_World_has_letter o_World_has_letter hr G.b_World_has_letter .nil pass0 (pa_cons (pv 1) pa_nil)))) (pss_one (ps_ret (pe_glob rfl G.g_REFUSED ⟨_, rfl⟩))) (pss_nil))
      (pss_cons (ps_expr (pe_bm PySem.F.plainAttrs_list PySem.F.slot_list_pop PySem.F.type_list_pop mt_popAt (pe_fld (pv 0) rfl) (pa_cons (pv 1) pa_nil)))
      (pss_one (ps_ret pe_int)))
theorem bd_World_hand_over (G : Pg K mg) {p_Node_hear : Sp} (o_Node_hear : FnOk P w K mg base CX0 3 G.f_Node_hear G.fd_Node_hear ["self", "facts"] p_Node_hear) {p_World_ask_for_another : Sp} (o_World_ask_for_another : FnOk P w K mg base CX0 4 G.f_World_ask_for_another G.fd_World_ask_for_another ["self", "node", "letter"] p_World_ask_for_another) {p_World_send : Sp} (o_World_send : FnOk P w K mg base CX0 3 G.f_World_send G.fd_World_send ["self", "node", "kind", "to", "number", "whom"] p_World_send) {p_World_get_here : Sp} (o_World_get_here : FnOk P w K mg base CX0 4 G.f_World_get_here G.fd_World_get_here ["self", "node", "number"] p_World_get_here) {cdv : Value} {A : Around} {outer : List Env} {s : Shared} {H : Hp} {E : XK} (hr : Room 4 (A.deeper (envOfC "World.hand_over" (defScope s_World_hand_over) s.heap.objs.size G.f_World_hand_over cdv))) :
    PSs (cxOf CX0 P w K mg base ["self", "letter", "node"] "World.hand_over" (defScope s_World_hand_over) G.f_World_hand_over cdv A outer s H E).nox (defBody s_World_hand_over) (t_World_hand_over G p_Node_hear p_World_ask_for_another p_World_send p_World_get_here) := by
  exact pss_cons (ps_set (i := 2) sc_World_hand_over.nd rfl (Or.inl rfl) (pe_ix ix_list (pe_fld (pv 0) rfl) (pe_fld (pv 1) rfl) (fun _ _ => rfl)))
      (pss_cons (ps_if (pt_not (pt_val (pe_fld (pv 2) rfl))) (pss_one (ps_ret (pe_glob rfl G.g_NO_USE ⟨_, rfl⟩))) (pss_nil))
      (pss_cons (ps_expr (pe_meth (pv 2) G.cl_Node G.m_Node_hear o_Node_hear (hr.mono (by decide)) G.b_Node_hear .nil pass0 (pa_cons (pe_fld (pv 1) rfl) pa_nil)))
      (pss_cons (ps_if (pt_cmpR op_eq (pe_fld (pv 1) rfl) (pe_glob rfl G.g_ASK ⟨_, rfl⟩) (nomark _)) (pss_cons (ps_expr (pe_meth (pv 0) G.cl_World G.m_World_send o_World_send (hr.mono (by decide)) G.b_World_send .nil pass0 (pa_cons (pv 2) (pa_cons (pe_glob rfl G.g_HERE ⟨_, rfl⟩) (pa_cons (pe_fld (pv 1) rfl) (pa_cons (pe_fld (pv 1) rfl) (pa_cons (pe_glob rfl G.g_NOT_TOLD ⟨_, rfl⟩) pa_nil)))))))
      (pss_one (ps_ret (pe_glob rfl G.g_ANSWERED ⟨_, rfl⟩)))) (pss_nil))
      (pss_cons (ps_if (pt_cmpR op_eq (pe_fld (pv 1) rfl) (pe_glob rfl G.g_HERE ⟨_, rfl⟩) (nomark _)) (pss_one (ps_ret (pe_meth (pv 0) G.cl_World G.m_World_get_here o_World_get_here hr G.b_World_get_here .nil pass0 (pa_cons (pv 2) (pa_cons (pe_fld (pv 1) rfl) pa_nil))))) (pss_nil))
      (pss_one (ps_ret (pe_meth (pv 0) G.cl_World G.m_World_ask_for_another o_World_ask_for_another hr G.b_World_ask_for_another .nil pass0 (pa_cons (pv 2) (pa_cons (pv 1) pa_nil)))))))))
theorem bd_World_get_here (G : Pg K mg) {p_World_send : Sp} (o_World_send : FnOk P w K mg base CX0 3 G.f_World_send G.fd_World_send ["self", "node", "kind", "to", "number", "whom"] p_World_send) {cdv : Value} {A : Around} {outer : List Env} {s : Shared} {H : Hp} {E : XK} (hr : Room 3 (A.deeper (envOfC "World.get_here" (defScope s_World_get_here) s.heap.objs.size G.f_World_get_here cdv))) :
    PSs (cxOf CX0 P w K mg base ["self", "node", "number", "errand"] "World.get_here" (defScope s_World_get_here) G.f_World_get_here cdv A outer s H E).nox (defBody s_World_get_here) (t_World_get_here G p_World_send) := by
  exact pss_cons (ps_set (i := 3) sc_World_get_here.nd rfl (Or.inl rfl) (pe_dpop2 (pe_fld (pv 1) rfl) (pv 2) pe_non ⟨rfl, rfl, rfl, rfl⟩))
      (pss_cons (ps_if (pt_cmpR op_notN (pv 3) pe_non (nomark _)) (pss_cons (ps_expr (pe_meth (pv 0) G.cl_World G.m_World_send o_World_send hr G.b_World_send .nil pass0 (pa_cons (pv 1) (pa_cons (pe_glob rfl G.g_HERE ⟨_, rfl⟩) (pa_cons (pe_ix ix_tup (pv 3) pe_int (fun _ _ => rfl)) (pa_cons (pe_ix ix_tup (pv 3) pe_int (fun _ _ => rfl)) (pa_cons (pe_glob rfl G.g_NOT_TOLD ⟨_, rfl⟩) pa_nil)))))))
      (pss_one (ps_ret (pe_glob rfl G.g_TOLD_ON ⟨_, rfl⟩)))) (pss_nil))
      (pss_cons (ps_if (PW.pt (pw_and (pt_cmpR op_notN (pe_fld (pv 1) rfl) pe_non (nomark _)) (pw_and1 (pt_cmpR op_eq (pe_fld (pe_fld (pv 1) rfl) rfl) (pv 2) (nomark _))))) (pss_cons (ps_fld (pv 1) pe_non rfl)
      (pss_one (ps_ret (pe_glob rfl G.g_ASKING_OVER ⟨_, rfl⟩)))) (pss_nil))
      (pss_one (ps_ret (pe_glob rfl G.g_BUT_HEARD ⟨_, rfl⟩)))))
theorem bd_World_ask_for_another (G : Pg K mg) {p_World_send : Sp} (o_World_send : FnOk P w K mg base CX0 3 G.f_World_send G.fd_World_send ["self", "node", "kind", "to", "number", "whom"] p_World_send) {cdv : Value} {A : Around} {outer : List Env} {s : Shared} {H : Hp} {E : XK} (hr : Room 3 (A.deeper (envOfC "World.ask_for_another" (defScope s_World_ask_for_another) s.heap.objs.size G.f_World_ask_for_another cdv))) :
    PSs (cxOf CX0 P w K mg base ["self", "node", "letter"] "World.ask_for_another" (defScope s_World_ask_for_another) G.f_World_ask_for_another cdv A outer s H E).nox (defBody s_World_ask_for_another) (t_World_ask_for_another G p_World_send) := by
  exact pss_cons (ps_fldaug (pv 1) pe_int in_add)
      (pss_cons (ps_dput (hu_of hr) (pe_fld (pv 1) rfl) (pe_fld (pv 1) rfl) (pe_tup (pa_cons (pe_fld (pv 2) rfl) (pa_cons (pe_fld (pv 2) rfl) pa_nil))) rfl)
      (pss_cons (ps_expr (pe_meth (pv 0) G.cl_World G.m_World_send o_World_send hr G.b_World_send .nil pass0 (pa_cons (pv 1) (pa_cons (pe_glob rfl G.g_ASK ⟨_, rfl⟩) (pa_cons (pe_fld (pv 2) rfl) (pa_cons (pe_fld (pv 1) rfl) (pa_cons (pe_glob rfl G.g_NOT_TOLD ⟨_, rfl⟩) pa_nil)))))))
      (pss_one (ps_ret (pe_glob rfl G.g_ANOTHER_ASKED ⟨_, rfl⟩)))))
theorem bd_World_stop_node (G : Pg K mg) {p_World_has_node : Sp} (o_World_has_node : FnOk P w K mg base CX0 1 G.f_World_has_node G.fd_World_has_node ["self", "k"] p_World_has_node) {cdv : Value} {A : Around} {outer : List Env} {s : Shared} {H : Hp} {E : XK} (hr : Room 1 (A.deeper (envOfC "World.stop_node" (defScope s_World_stop_node) s.heap.objs.size G.f_World_stop_node cdv))) :
    PSs (cxOf CX0 P w K mg base ["self", "k", "node"] "World.stop_node" (defScope s_World_stop_node) G.f_World_stop_node cdv A outer s H E).nox (defBody s_World_stop_node) (t_World_stop_node G p_World_has_node) := by
  exact pss_cons (ps_if (pt_not (pt_val (pe_meth (pv 0) G.cl_World G.m_World_has_node o_World_has_node hr G.b_World_has_node .nil pass0 (pa_cons (pv 1) pa_nil)))) (pss_one (ps_ret (pe_glob rfl G.g_REFUSED ⟨_, rfl⟩))) (pss_nil))
      (pss_cons (ps_set (i := 2) sc_World_stop_node.nd rfl (Or.inl rfl) (pe_ix ix_list (pe_fld (pv 0) rfl) (pv 1) (fun _ _ => rfl)))
      (pss_cons (ps_if (pt_not (pt_val (pe_fld (pv 2) rfl))) (pss_one (ps_ret (pe_glob rfl G.g_IS_SO_ALREADY ⟨_, rfl⟩))) (pss_nil))
      (pss_cons (ps_fld (pv 2) pe_bl rfl)
      (pss_one (ps_ret pe_int)))))
theorem bd_World_start_node (G : Pg K mg) {p_Node_begin_anew : Sp} (o_Node_begin_anew : FnOk P w K mg base CX0 2 G.f_Node_begin_anew G.fd_Node_begin_anew ["self"] p_Node_begin_anew) {p_World_has_node : Sp} (o_World_has_node : FnOk P w K mg base CX0 1 G.f_World_has_node G.fd_World_has_node ["self", "k"] p_World_has_node) {cdv : Value} {A : Around} {outer : List Env} {s : Shared} {H : Hp} {E : XK} (hr : Room 2 (A.deeper (envOfC "World.start_node" (defScope s_World_start_node) s.heap.objs.size G.f_World_start_node cdv))) :
    PSs (cxOf CX0 P w K mg base ["self", "k", "node"] "World.start_node" (defScope s_World_start_node) G.f_World_start_node cdv A outer s H E).nox (defBody s_World_start_node) (t_World_start_node G p_Node_begin_anew p_World_has_node) := by
  exact pss_cons (ps_if (pt_not (pt_val (pe_meth (pv 0) G.cl_World G.m_World_has_node o_World_has_node (hr.mono (by decide)) G.b_World_has_node .nil pass0 (pa_cons (pv 1) pa_nil)))) (pss_one (ps_ret (pe_glob rfl G.g_REFUSED ⟨_, rfl⟩))) (pss_nil))
      (pss_cons (ps_set (i := 2) sc_World_start_node.nd rfl (Or.inl rfl) (pe_ix ix_list (pe_fld (pv 0) rfl) (pv 1) (fun _ _ => rfl)))
      (pss_cons (ps_if (pt_val (pe_fld (pv 2) rfl)) (pss_one (ps_ret (pe_glob rfl G.g_IS_SO_ALREADY ⟨_, rfl⟩))) (pss_nil))
      (pss_cons (ps_expr (pe_meth0 (pv 2) G.cl_Node G.m_Node_begin_anew o_Node_begin_anew hr G.b_Node_begin_anew .nil pass0))
      (pss_one (ps_ret (pe_fld (pv 2) rfl))))))
theorem bd_World_tell_letters (G : Pg K mg) {p_one_behind_another : Sp} (o_one_behind_another : FnOk P w K mg base CX0 1 G.f_one_behind_another G.fd_one_behind_another ["parts"] p_one_behind_another) {p_Letter_numbers : Sp} (o_Letter_numbers : FnOk P w K mg base CX0 2 G.f_Letter_numbers G.fd_Letter_numbers ["self"] p_Letter_numbers) {cdv : Value} {A : Around} {outer : List Env} {s : Shared} {H : Hp} {E : XK} (hr : Room 2 (A.deeper (envOfC "World.tell_letters" (defScope s_World_tell_letters) s.heap.objs.size G.f_World_tell_letters cdv))) :
    PSs (cxOf CX0 P w K mg base ["self", "letter"] "World.tell_letters" (defScope s_World_tell_letters) G.f_World_tell_letters cdv A outer s H E).nox (defBody s_World_tell_letters) (t_World_tell_letters G p_one_behind_another p_Letter_numbers) := by
  exact pss_one (ps_ret (pe_op op_cat (pe_lst (pa_cons (pe_callB call_len_seq (by rfl) G.b_len PySem.boot_len (pa_cons (pe_fld (pv 0) rfl) pa_nil)) pa_nil)) (pe_call o_one_behind_another (hr.mono (by decide)) rfl G.g_one_behind_another G.k_one_behind_another G.b_one_behind_another .nil pass0 (pa_cons (pe_lc (own := [("letter", 1)]) (g := gName 1) (tt := tYes) rfl sc_World_tell_letters.nd (pi_list (pe_fld (pv 0) rfl)) (blkOk_by (own := [("letter", 1)]) (N := ["self", "letter"]) (sc := defScope s_World_tell_letters) (by decide +kernel)) (fun _ _ _ _ _ => pg_name (i := 1) sc_World_tell_letters.nd rfl (Or.inl rfl)) (fun _ _ _ _ _ => pts_nil) (fun _ _ _ _ _ => (pe_meth0 (pv 1) G.cl_Letter G.m_Letter_numbers o_Letter_numbers hr G.b_Letter_numbers .nil pass0))) pa_nil))))
theorem bd_World_tell_node (G : Pg K mg) {p_Node_numbers : Sp} (o_Node_numbers : FnOk P w K mg base CX0 2 G.f_Node_numbers G.fd_Node_numbers ["self"] p_Node_numbers) {p_World_has_node : Sp} (o_World_has_node : FnOk P w K mg base CX0 1 G.f_World_has_node G.fd_World_has_node ["self", "k"] p_World_has_node) {cdv : Value} {A : Around} {outer : List Env} {s : Shared} {H : Hp} {E : XK} (hr : Room 2 (A.deeper (envOfC "World.tell_node" (defScope s_World_tell_node) s.heap.objs.size G.f_World_tell_node cdv))) :
    PSs (cxOf CX0 P w K mg base ["self", "k"] "World.tell_node" (defScope s_World_tell_node) G.f_World_tell_node cdv A outer s H E).nox (defBody s_World_tell_node) (t_World_tell_node G p_Node_numbers p_World_has_node) := by
  exact pss_cons (ps_if (pt_not (pt_val (pe_meth (pv 0) G.cl_World G.m_World_has_node o_World_has_node (hr.mono (by decide)) G.b_World_has_node .nil pass0 (pa_cons (pv 1) pa_nil)))) (pss_one (ps_ret (pe_lst (pa_cons (pe_glob rfl G.g_REFUSED ⟨_, rfl⟩) pa_nil)))) (pss_nil))
      (pss_one (ps_ret (pe_meth0 (pe_ix ix_list (pe_fld (pv 0) rfl) (pv 1) (fun _ _ => rfl)) G.cl_Node G.m_Node_numbers o_Node_numbers hr G.b_Node_numbers .nil pass0)))
theorem bd_World_tell_seen (G : Pg K mg) {p_Node_seen : Sp} (o_Node_seen : FnOk P w K mg base CX0 1 G.f_Node_seen G.fd_Node_seen ["self"] p_Node_seen) {p_World_has_node : Sp} (o_World_has_node : FnOk P w K mg base CX0 1 G.f_World_has_node G.fd_World_has_node ["self", "k"] p_World_has_node) {cdv : Value} {A : Around} {outer : List Env} {s : Shared} {H : Hp} {E : XK} (hr : Room 1 (A.deeper (envOfC "World.tell_seen" (defScope s_World_tell_seen) s.heap.objs.size G.f_World_tell_seen cdv))) :
    PSs (cxOf CX0 P w K mg base ["self", "k", "seen"] "World.tell_seen" (defScope s_World_tell_seen) G.f_World_tell_seen cdv A outer s H E).nox (defBody s_World_tell_seen) (t_World_tell_seen G p_Node_seen p_World_has_node) := by
  exact pss_cons (ps_if (pt_not (pt_val (pe_meth (pv 0) G.cl_World G.m_World_has_node o_World_has_node hr G.b_World_has_node .nil pass0 (pa_cons (pv 1) pa_nil)))) (pss_one (ps_ret (pe_lst (pa_cons (pe_glob rfl G.g_REFUSED ⟨_, rfl⟩) pa_nil)))) (pss_nil))
      (pss_cons (ps_set (i := 2) sc_World_tell_seen.nd rfl (Or.inl rfl) (pe_meth0 (pe_ix ix_list (pe_fld (pv 0) rfl) (pv 1) (fun _ _ => rfl)) G.cl_Node G.m_Node_seen o_Node_seen hr G.b_Node_seen .nil pass0))
      (pss_one (ps_ret (pe_op op_cat (pe_lst (pa_cons (pe_callB call_len_seq (by rfl) G.b_len PySem.boot_len (pa_cons (pv 2) pa_nil)) pa_nil)) (pv 2)))))
theorem bd_World_tell_blames (G : Pg K mg) {p_one_behind_another : Sp} (o_one_behind_another : FnOk P w K mg base CX0 1 G.f_one_behind_another G.fd_one_behind_another ["parts"] p_one_behind_another) {cdv : Value} {A : Around} {outer : List Env} {s : Shared} {H : Hp} {E : XK} (hr : Room 1 (A.deeper (envOfC "World.tell_blames" (defScope s_World_tell_blames) s.heap.objs.size G.f_World_tell_blames cdv))) :
    PSs (cxOf CX0 P w K mg base ["self"] "World.tell_blames" (defScope s_World_tell_blames) G.f_World_tell_blames cdv A outer s H E).nox (defBody s_World_tell_blames) (t_World_tell_blames G p_one_behind_another) := by
  exact pss_one (ps_ret (pe_op op_cat (pe_lst (pa_cons (pe_callB call_len_seq (by rfl) G.b_len PySem.boot_len (pa_cons (pe_fld (pv 0) rfl) pa_nil)) pa_nil)) (pe_call o_one_behind_another hr rfl G.g_one_behind_another G.k_one_behind_another G.b_one_behind_another .nil pass0 (pa_cons (pe_fld (pv 0) rfl) pa_nil))))
theorem bd_change (G : Pg K mg) {p_World_start_node : Sp} (o_World_start_node : FnOk P w K mg base CX0 3 G.f_World_start_node G.fd_World_start_node ["self", "k"] p_World_start_node) {p_World_probe : Sp} (o_World_probe : FnOk P w K mg base CX0 4 G.f_World_probe G.fd_World_probe ["self", "k", "whom"] p_World_probe) {p_World_tick : Sp} (o_World_tick : FnOk P w K mg base CX0 6 G.f_World_tick G.fd_World_tick ["self", "k"] p_World_tick) {p_World_take : Sp} (o_World_take : FnOk P w K mg base CX0 6 G.f_World_take G.fd_World_take ["self", "k"] p_World_take) {p_World_keep : Sp} (o_World_keep : FnOk P w K mg base CX0 6 G.f_World_keep G.fd_World_keep ["self", "k"] p_World_keep) {p_World_lose : Sp} (o_World_lose : FnOk P w K mg base CX0 2 G.f_World_lose G.fd_World_lose ["self", "k"] p_World_lose) {p_World_stop_node : Sp} (o_World_stop_node : FnOk P w K mg base CX0 2 G.f_World_stop_node G.fd_World_stop_node ["self", "k"] p_World_stop_node) {cdv : Value} {A : Around} {outer : List Env} {s : Shared} {H : Hp} {E : XK} (hr : Room 6 (A.deeper (envOfC "change" (defScope s_change) s.heap.objs.size G.f_change cdv))) :
    PSs (cxOf CX0 P w K mg base ["world", "call", "told"] "change" (defScope s_change) G.f_change cdv A outer s H E).nox (defBody s_change) (t_change G p_World_start_node p_World_probe p_World_tick p_World_take p_World_keep p_World_lose p_World_stop_node) := by
  exact pss_cons (ps_if (pt_cmpR op_eq (pv 1) (pe_glob rfl G.g_PROBE ⟨_, rfl⟩) (nomark _)) (pss_one (ps_ret (pe_meth (pv 0) G.cl_World G.m_World_probe o_World_probe (hr.mono (by decide)) G.b_World_probe .nil pass0 (pa_cons (pe_ix ix_list (pv 2) pe_int (fun _ _ => rfl)) (pa_cons (pe_ix ix_list (pv 2) pe_int (fun _ _ => rfl)) pa_nil))))) (pss_nil))
      (pss_cons (ps_if (pt_cmpR op_eq (pv 1) (pe_glob rfl G.g_TICK ⟨_, rfl⟩) (nomark _)) (pss_one (ps_ret (pe_meth (pv 0) G.cl_World G.m_World_tick o_World_tick hr G.b_World_tick .nil pass0 (pa_cons (pe_ix ix_list (pv 2) pe_int (fun _ _ => rfl)) pa_nil)))) (pss_nil))
      (pss_cons (ps_if (pt_cmpR op_eq (pv 1) (pe_glob rfl G.g_TAKE ⟨_, rfl⟩) (nomark _)) (pss_one (ps_ret (pe_meth (pv 0) G.cl_World G.m_World_take o_World_take hr G.b_World_take .nil pass0 (pa_cons (pe_ix ix_list (pv 2) pe_int (fun _ _ => rfl)) pa_nil)))) (pss_nil))
      (pss_cons (ps_if (pt_cmpR op_eq (pv 1) (pe_glob rfl G.g_KEEP ⟨_, rfl⟩) (nomark _)) (pss_one (ps_ret (pe_meth (pv 0) G.cl_World G.m_World_keep o_World_keep hr G.b_World_keep .nil pass0 (pa_cons (pe_ix ix_list (pv 2) pe_int (fun _ _ => rfl)) pa_nil)))) (pss_nil))
      (pss_cons (ps_if (pt_cmpR op_eq (pv 1) (pe_glob rfl G.g_LOSE ⟨_, rfl⟩) (nomark _)) (pss_one (ps_ret (pe_meth (pv 0) G.cl_World G.m_World_lose o_World_lose (hr.mono (by decide)) G.b_World_lose .nil pass0 (pa_cons (pe_ix ix_list (pv 2) pe_int (fun _ _ => rfl)) pa_nil)))) (pss_nil))
      (pss_cons (ps_if (pt_cmpR op_eq (pv 1) (pe_glob rfl G.g_STOP ⟨_, rfl⟩) (nomark _)) (pss_one (ps_ret (pe_meth (pv 0) G.cl_World G.m_World_stop_node o_World_stop_node (hr.mono (by decide)) G.b_World_stop_node .nil pass0 (pa_cons (pe_ix ix_list (pv 2) pe_int (fun _ _ => rfl)) pa_nil)))) (pss_nil))
      (pss_one (ps_ret (pe_meth (pv 0) G.cl_World G.m_World_start_node o_World_start_node (hr.mono (by decide)) G.b_World_start_node .nil pass0 (pa_cons (pe_ix ix_list (pv 2) pe_int (fun _ _ => rfl)) pa_nil)))))))))
theorem bd_tell (G : Pg K mg) {p_World_tell_blames : Sp} (o_World_tell_blames : FnOk P w K mg base CX0 2 G.f_World_tell_blames G.fd_World_tell_blames ["self"] p_World_tell_blames) {p_World_tell_letters : Sp} (o_World_tell_letters : FnOk P w K mg base CX0 3 G.f_World_tell_letters G.fd_World_tell_letters ["self"] p_World_tell_letters) {p_World_tell_node : Sp} (o_World_tell_node : FnOk P w K mg base CX0 3 G.f_World_tell_node G.fd_World_tell_node ["self", "k"] p_World_tell_node) {p_World_tell_seen : Sp} (o_World_tell_seen : FnOk P w K mg base CX0 2 G.f_World_tell_seen G.fd_World_tell_seen ["self", "k"] p_World_tell_seen) {cdv : Value} {A : Around} {outer : List Env} {s : Shared} {H : Hp} {E : XK} (hr : Room 3 (A.deeper (envOfC "tell" (defScope s_tell) s.heap.objs.size G.f_tell cdv))) :
    PSs (cxOf CX0 P w K mg base ["world", "call", "told"] "tell" (defScope s_tell) G.f_tell cdv A outer s H E).nox (defBody s_tell) (t_tell G p_World_tell_blames p_World_tell_letters p_World_tell_node p_World_tell_seen) := by
  exact pss_cons (ps_if (pt_cmpR op_eq (pv 1) (pe_glob rfl G.g_LETTERS ⟨_, rfl⟩) (nomark _)) (pss_one (ps_ret (pe_meth0 (pv 0) G.cl_World G.m_World_tell_letters o_World_tell_letters hr G.b_World_tell_letters .nil pass0))) (pss_nil))
      (pss_cons (ps_if (pt_cmpR op_eq (pv 1) (pe_glob rfl G.g_NODE ⟨_, rfl⟩) (nomark _)) (pss_one (ps_ret (pe_meth (pv 0) G.cl_World G.m_World_tell_node o_World_tell_node hr G.b_World_tell_node .nil pass0 (pa_cons (pe_ix ix_list (pv 2) pe_int (fun _ _ => rfl)) pa_nil)))) (pss_nil))
      (pss_cons (ps_if (pt_cmpR op_eq (pv 1) (pe_glob rfl G.g_SEES ⟨_, rfl⟩) (nomark _)) (pss_one (ps_ret (pe_meth (pv 0) G.cl_World G.m_World_tell_seen o_World_tell_seen (hr.mono (by decide)) G.b_World_tell_seen .nil pass0 (pa_cons (pe_ix ix_list (pv 2) pe_int (fun _ _ => rfl)) pa_nil)))) (pss_nil))
      (pss_one (ps_ret (pe_meth0 (pv 0) G.cl_World G.m_World_tell_blames o_World_tell_blames (hr.mono (by decide)) G.b_World_tell_blames .nil pass0)))))
theorem bd_Line_init (G : Pg K mg) {cdv : Value} {A : Around} {outer : List Env} {s : Shared} {H : Hp} {E : XK} (hr : Room 0 (A.deeper (envOfC "Line.__init__" (defScope s_Line_init) s.heap.objs.size G.f_Line_init cdv))) :
    PSs (cxOf CX0 P w K mg base ["self"] "Line.__init__" (defScope s_Line_init) G.f_Line_init cdv A outer s H E).nox (defBody s_Line_init) (t_Line_init G) := by
  exact pss_one (ps_fld (pv 0) pe_non rfl)
theorem bd_Line_begin (G : Pg K mg) {p_World_init : Sp} (o_World_init : FnOk P w K mg base CX0 4 G.f_World_init G.fd_World_init ["self", "count", "wait", "patience"] p_World_init) {cdv : Value} {A : Around} {outer : List Env} {s : Shared} {H : Hp} {E : XK} (hr : Room 5 (A.deeper (envOfC "Line.begin" (defScope s_Line_begin) s.heap.objs.size G.f_Line_begin cdv))) :
    PSs (cxOf CX0 P w K mg base ["self", "count", "wait", "patience"] "Line.begin" (defScope s_Line_begin) G.f_Line_begin cdv A outer s H E).nox (defBody s_Line_begin) (t_Line_begin G p_World_init) := by
  exact pss_cons (ps_if (PW.pt (pw_or (pt_not (pt_chain op_le op_le pe_int (pv 1) pe_int)) (pw_or (pt_not (pt_chain op_le op_le pe_int (pv 2) pe_int)) (pw_or1 (pt_not (pt_chain op_le op_le pe_int (pv 3) pe_int)))))) (pss_one (ps_ret (pe_glob rfl G.g_REFUSED ⟨_, rfl⟩))) (pss_nil))
      (pss_cons (ps_fld (pv 0) (pe_make G.mk_World o_World_init hr rfl G.g_World G.b_World_init .nil pass0 (pa_cons (pv 1) (pa_cons (pv 2) (pa_cons (pv 3) pa_nil)))) rfl)
      (pss_one (ps_ret pe_int)))
theorem bd_Line_answer (G : Pg K mg) {p_tell : Sp} (o_tell : FnOk P w K mg base CX0 4 G.f_tell G.fd_tell ["world", "call", "told"] p_tell) {p_Line_begin : Sp} (o_Line_begin : FnOk P w K mg base CX0 6 G.f_Line_begin G.fd_Line_begin ["self", "count", "wait", "patience"] p_Line_begin) {p_change : Sp} (o_change : FnOk P w K mg base CX0 7 G.f_change G.fd_change ["world", "call", "told"] p_change) {cdv : Value} {A : Around} {outer : List Env} {s : Shared} {H : Hp} {E : XK} (hr : Room 7 (A.deeper (envOfC "Line.answer" (defScope s_Line_answer) s.heap.objs.size G.f_Line_answer cdv))) :
    PSs (cxOf CX0 P w K mg base ["self", "call", "told"] "Line.answer" (defScope s_Line_answer) G.f_Line_answer cdv A outer s H E).nox (defBody s_Line_answer) (t_Line_answer G p_tell p_Line_begin p_change) := by
  exact pss_cons (ps_if (pt_cmpR op_eq (pv 1) (pe_glob rfl G.g_BEGIN ⟨_, rfl⟩) (nomark _)) (pss_one (ps_ret (pe_lst (pa_cons (pe_meth (pv 0) G.cl_Line G.m_Line_begin o_Line_begin (hr.mono (by decide)) G.b_Line_begin .nil pass0 (pa_cons (pe_ix ix_list (pv 2) pe_int (fun _ _ => rfl)) (pa_cons (pe_ix ix_list (pv 2) pe_int (fun _ _ => rfl)) (pa_cons (pe_ix ix_list (pv 2) pe_int (fun _ _ => rfl)) pa_nil)))) pa_nil)))) (pss_nil))
      (pss_cons (ps_if (pt_cmpR op_isN (pe_fld (pv 0) rfl) pe_non (nomark _)) (pss_one (ps_ret (pe_lst (pa_cons (pe_glob rfl G.g_NO_WORLD ⟨_, rfl⟩) pa_nil)))) (pss_nil))
      (pss_cons (ps_if (pt_cmpR op_lt (pv 1) (pe_glob rfl G.g_LETTERS ⟨_, rfl⟩) (nomark _)) (pss_one (ps_ret (pe_lst (pa_cons (pe_call o_change hr rfl G.g_change G.k_change G.b_change .nil pass0 (pa_cons (pe_fld (pv 0) rfl) (pa_cons (pv 1) (pa_cons (pv 2) pa_nil)))) pa_nil)))) (pss_nil))
      (pss_one (ps_ret (pe_call o_tell (hr.mono (by decide)) rfl G.g_tell G.k_tell G.b_tell .nil pass0 (pa_cons (pe_fld (pv 0) rfl) (pa_cons (pv 1) (pa_cons (pv 2) pa_nil))))))))
theorem bd_answers (G : Pg K mg) {p_Line_init : Sp} (o_Line_init : FnOk P w K mg base CX0 1 G.f_Line_init G.fd_Line_init ["self"] p_Line_init) {p_Line_answer : Sp} (o_Line_answer : FnOk P w K mg base CX0 8 G.f_Line_answer G.fd_Line_answer ["self", "call", "told"] p_Line_answer) {cdv : Value} {A : Around} {outer : List Env} {s : Shared} {H : Hp} {E : XK} (hr : Room 8 (A.deeper (envOfC "answers" (defScope s_answers) s.heap.objs.size G.f_answers cdv))) :
    PSs (cxOf CX0 P w K mg base ["calls", "line", "given", "at", "call", "behind", "answer"] "answers" (defScope s_answers) G.f_answers cdv A outer s H E).nox (defBody s_answers) (t_answers G p_Line_init p_Line_answer) := by
  exact pss_cons (ps_set (i := 1) sc_answers.nd rfl (Or.inl rfl) (pe_make0 G.mk_Line o_Line_init (hr.mono (by decide)) rfl G.g_Line G.b_Line_init .nil pass0))
      (pss_cons (ps_set (i := 2) sc_answers.nd rfl (Or.inl rfl) (pe_lst pa_nil))
      (pss_cons (ps_set (i := 3) sc_answers.nd rfl (Or.inl rfl) pe_int)
      (pss_cons (ps_while PassesOwn.never (pt_cmpR op_lt (pv 3) (pe_callB call_len_seq (by rfl) G.b_len PySem.boot_len (pa_cons (pv 0) pa_nil)) (nomark _)) (pss_cons (ps_set (i := 4) sc_answers.nd rfl (Or.inl rfl) (pe_ix ix_list (pv 0) (pv 3) (fun _ _ => rfl)))
      (pss_cons (ps_set (i := 5) sc_answers.nd rfl (Or.inl rfl) (pe_op op_add (pe_op op_add (pv 3) pe_int) (pe_ix ix_tup (pe_glob rfl G.g_COUNTS rfl) (pv 4) (fun _ _ => rfl))))
      (pss_cons (ps_set (i := 6) sc_answers.nd rfl (Or.inl rfl) (pe_meth (pv 1) G.cl_Line G.m_Line_answer o_Line_answer hr G.b_Line_answer .nil pass0 (pa_cons (pv 4) (pa_cons (pe_slice sl_list (pv 0) (po_some (pe_op op_add (pv 3) pe_int)) (po_some (pv 5))) pa_nil))))
      (pss_cons (ps_expr (pe_bm PySem.F.plainAttrs_list PySem.F.slot_list_append PySem.F.type_list_append mt_append (pv 2) (pa_cons (pe_callB call_len_seq (by rfl) G.b_len PySem.boot_len (pa_cons (pv 6) pa_nil)) pa_nil)))
      (pss_cons (ps_expr (pe_bm PySem.F.plainAttrs_list PySem.F.slot_list_extend PySem.F.type_list_extend mt_extend (pv 2) (pa_cons (pv 6) pa_nil)))
      (pss_one (ps_set (i := 3) sc_answers.nd rfl (Or.inl rfl) (pv 5)))))))))
      (pss_one (ps_ret (pv 2))))))
end
end Wt
namespace Wt
open PySem PySem.Spec PyProof.Rows L2
theorem lk_here {k : Str} {v : V} {r : List (Str × V)} : List.lookup k ((k, v) :: r) = some v := by
  have e : (k == k) = true := beq_self_eq_true k
  simp only [List.lookup, e]
theorem lk_past {k g : Str} {v : V} {r : List (Str × V)} (h : (k == g) = false) : List.lookup k ((g, v) :: r) = List.lookup k r := by
  simp only [List.lookup, h]
theorem put_here {f : Str} {v x : V} {r : List (Str × V)} : putF f v ((f, x) :: r) = (f, v) :: r := if_pos rfl
theorem put_past {f g : Str} {v x : V} {r : List (Str × V)} (h : ¬ g = f) : putF f v ((g, x) :: r) = (g, x) :: putF f v r := if_neg h
theorem pl1 {f : Str} {v : V} {fs : List (Str × V)} {n : Nat} (h : fs.length ≤ n) : (putF f v fs).length ≤ n + 1 := Nat.le_trans (length_putF f v fs) (Nat.succ_le_succ h)
def lF (v0 v1 v2 v3 v4 v5 : V) : List (Str × V) := [("kind", v0), ("to", v1), ("sender", v2), ("number", v3), ("whom", v4), ("facts", v5)]
theorem lF_kind {v0 v1 v2 v3 v4 v5 : V} : (lF v0 v1 v2 v3 v4 v5).lookup ("kind" : Str) = some v0 := lk_here
theorem lF_put_kind {x : V} {v0 v1 v2 v3 v4 v5 : V} : putF "kind" x (lF v0 v1 v2 v3 v4 v5) = lF x v1 v2 v3 v4 v5 := put_here
theorem lF_to {v0 v1 v2 v3 v4 v5 : V} : (lF v0 v1 v2 v3 v4 v5).lookup ("to" : Str) = some v1 := (lk_past (by decide +kernel)).trans (lk_here)
theorem lF_put_to {x : V} {v0 v1 v2 v3 v4 v5 : V} : putF "to" x (lF v0 v1 v2 v3 v4 v5) = lF v0 x v2 v3 v4 v5 := (put_past (by decide +kernel)).trans (congrArg _ (put_here))
theorem lF_sender {v0 v1 v2 v3 v4 v5 : V} : (lF v0 v1 v2 v3 v4 v5).lookup ("sender" : Str) = some v2 := (lk_past (by decide +kernel)).trans ((lk_past (by decide +kernel)).trans (lk_here))
theorem lF_put_sender {x : V} {v0 v1 v2 v3 v4 v5 : V} : putF "sender" x (lF v0 v1 v2 v3 v4 v5) = lF v0 v1 x v3 v4 v5 := (put_past (by decide +kernel)).trans (congrArg _ ((put_past (by decide +kernel)).trans (congrArg _ (put_here))))
theorem lF_number {v0 v1 v2 v3 v4 v5 : V} : (lF v0 v1 v2 v3 v4 v5).lookup ("number" : Str) = some v3 := (lk_past (by decide +kernel)).trans ((lk_past (by decide +kernel)).trans ((lk_past (by decide +kernel)).trans (lk_here)))
theorem lF_put_number {x : V} {v0 v1 v2 v3 v4 v5 : V} : putF "number" x (lF v0 v1 v2 v3 v4 v5) = lF v0 v1 v2 x v4 v5 := (put_past (by decide +kernel)).trans (congrArg _ ((put_past (by decide +kernel)).trans (congrArg _ ((put_past (by decide +kernel)).trans (congrArg _ (put_here))))))
theorem lF_whom {v0 v1 v2 v3 v4 v5 : V} : (lF v0 v1 v2 v3 v4 v5).lookup ("whom" : Str) = some v4 := (lk_past (by decide +kernel)).trans ((lk_past (by decide +kernel)).trans ((lk_past (by decide +kernel)).trans ((lk_past (by decide +kernel)).trans (lk_here))))
theorem lF_put_whom {x : V} {v0 v1 v2 v3 v4 v5 : V} : putF "whom" x (lF v0 v1 v2 v3 v4 v5) = lF v0 v1 v2 v3 x v5 := (put_past (by decide +kernel)).trans (congrArg _ ((put_past (by decide +kernel)).trans (congrArg _ ((put_past (by decide +kernel)).trans (congrArg _ ((put_past (by decide +kernel)).trans (congrArg _ (put_here))))))))
theorem lF_facts {v0 v1 v2 v3 v4 v5 : V} : (lF v0 v1 v2 v3 v4 v5).lookup ("facts" : Str) = some v5 := (lk_past (by decide +kernel)).trans ((lk_past (by decide +kernel)).trans ((lk_past (by decide +kernel)).trans ((lk_past (by decide +kernel)).trans ((lk_past (by decide +kernel)).trans (lk_here)))))
theorem lF_put_facts {x : V} {v0 v1 v2 v3 v4 v5 : V} : putF "facts" x (lF v0 v1 v2 v3 v4 v5) = lF v0 v1 v2 v3 v4 x := (put_past (by decide +kernel)).trans (congrArg _ ((put_past (by decide +kernel)).trans (congrArg _ ((put_past (by decide +kernel)).trans (congrArg _ ((put_past (by decide +kernel)).trans (congrArg _ ((put_past (by decide +kernel)).trans (congrArg _ (put_here))))))))))
theorem lF_no_numbers {v0 v1 v2 v3 v4 v5 : V} : (lF v0 v1 v2 v3 v4 v5).lookup ("numbers" : Str) = none := (lk_past (by decide +kernel)).trans ((lk_past (by decide +kernel)).trans ((lk_past (by decide +kernel)).trans ((lk_past (by decide +kernel)).trans ((lk_past (by decide +kernel)).trans ((lk_past (by decide +kernel)).trans (rfl))))))
theorem lF_st1 {v0 : V} : putF "kind" v0 ([] : List (Str × V)) = ([(("kind" : Str), v0)] : List (Str × V)) := rfl
theorem lF_st2 {v0 v1 : V} : putF "to" v1 ([(("kind" : Str), v0)] : List (Str × V)) = ([(("kind" : Str), v0), (("to" : Str), v1)] : List (Str × V)) := (put_past (by decide +kernel)).trans (congrArg _ (rfl))
theorem lF_st3 {v0 v1 v2 : V} : putF "sender" v2 ([(("kind" : Str), v0), (("to" : Str), v1)] : List (Str × V)) = ([(("kind" : Str), v0), (("to" : Str), v1), (("sender" : Str), v2)] : List (Str × V)) := (put_past (by decide +kernel)).trans (congrArg _ ((put_past (by decide +kernel)).trans (congrArg _ (rfl))))
theorem lF_st4 {v0 v1 v2 v3 : V} : putF "number" v3 ([(("kind" : Str), v0), (("to" : Str), v1), (("sender" : Str), v2)] : List (Str × V)) = ([(("kind" : Str), v0), (("to" : Str), v1), (("sender" : Str), v2), (("number" : Str), v3)] : List (Str × V)) := (put_past (by decide +kernel)).trans (congrArg _ ((put_past (by decide +kernel)).trans (congrArg _ ((put_past (by decide +kernel)).trans (congrArg _ (rfl))))))
theorem lF_st5 {v0 v1 v2 v3 v4 : V} : putF "whom" v4 ([(("kind" : Str), v0), (("to" : Str), v1), (("sender" : Str), v2), (("number" : Str), v3)] : List (Str × V)) = ([(("kind" : Str), v0), (("to" : Str), v1), (("sender" : Str), v2), (("number" : Str), v3), (("whom" : Str), v4)] : List (Str × V)) := (put_past (by decide +kernel)).trans (congrArg _ ((put_past (by decide +kernel)).trans (congrArg _ ((put_past (by decide +kernel)).trans (congrArg _ ((put_past (by decide +kernel)).trans (congrArg _ (rfl))))))))
theorem lF_st6 {v0 v1 v2 v3 v4 v5 : V} : putF "facts" v5 ([(("kind" : Str), v0), (("to" : Str), v1), (("sender" : Str), v2), (("number" : Str), v3), (("whom" : Str), v4)] : List (Str × V)) = ([(("kind" : Str), v0), (("to" : Str), v1), (("sender" : Str), v2), (("number" : Str), v3), (("whom" : Str), v4), (("facts" : Str), v5)] : List (Str × V)) := (put_past (by decide +kernel)).trans (congrArg _ ((put_past (by decide +kernel)).trans (congrArg _ ((put_past (by decide +kernel)).trans (congrArg _ ((put_past (by decide +kernel)).trans (congrArg _ ((put_past (by decide +kernel)).trans (congrArg _ (rfl))))))))))
theorem lF_init {v0 v1 v2 v3 v4 v5 : V} : putF "facts" v5 (putF "whom" v4 (putF "number" v3 (putF "sender" v2 (putF "to" v1 (putF "kind" v0 ([])))))) = lF v0 v1 v2 v3 v4 v5 := (congrArg (putF "facts" v5) ((congrArg (putF "whom" v4) ((congrArg (putF "number" v3) ((congrArg (putF "sender" v2) ((congrArg (putF "to" v1) (lF_st1)).trans lF_st2)).trans lF_st3)).trans lF_st4)).trans lF_st5)).trans lF_st6
def aF (v0 v1 v2 v3 : V) : List (Str × V) := [("whom", v0), ("number", v1), ("since", v2), ("helped", v3)]
theorem aF_whom {v0 v1 v2 v3 : V} : (aF v0 v1 v2 v3).lookup ("whom" : Str) = some v0 := lk_here
theorem aF_put_whom {x : V} {v0 v1 v2 v3 : V} : putF "whom" x (aF v0 v1 v2 v3) = aF x v1 v2 v3 := put_here
theorem aF_number {v0 v1 v2 v3 : V} : (aF v0 v1 v2 v3).lookup ("number" : Str) = some v1 := (lk_past (by decide +kernel)).trans (lk_here)
theorem aF_put_number {x : V} {v0 v1 v2 v3 : V} : putF "number" x (aF v0 v1 v2 v3) = aF v0 x v2 v3 := (put_past (by decide +kernel)).trans (congrArg _ (put_here))
theorem aF_since {v0 v1 v2 v3 : V} : (aF v0 v1 v2 v3).lookup ("since" : Str) = some v2 := (lk_past (by decide +kernel)).trans ((lk_past (by decide +kernel)).trans (lk_here))
theorem aF_put_since {x : V} {v0 v1 v2 v3 : V} : putF "since" x (aF v0 v1 v2 v3) = aF v0 v1 x v3 := (put_past (by decide +kernel)).trans (congrArg _ ((put_past (by decide +kernel)).trans (congrArg _ (put_here))))
theorem aF_helped {v0 v1 v2 v3 : V} : (aF v0 v1 v2 v3).lookup ("helped" : Str) = some v3 := (lk_past (by decide +kernel)).trans ((lk_past (by decide +kernel)).trans ((lk_past (by decide +kernel)).trans (lk_here)))
theorem aF_put_helped {x : V} {v0 v1 v2 v3 : V} : putF "helped" x (aF v0 v1 v2 v3) = aF v0 v1 v2 x := (put_past (by decide +kernel)).trans (congrArg _ ((put_past (by decide +kernel)).trans (congrArg _ ((put_past (by decide +kernel)).trans (congrArg _ (put_here))))))
theorem aF_no_numbers {v0 v1 v2 v3 : V} : (aF v0 v1 v2 v3).lookup ("numbers" : Str) = none := (lk_past (by decide +kernel)).trans ((lk_past (by decide +kernel)).trans ((lk_past (by decide +kernel)).trans ((lk_past (by decide +kernel)).trans (rfl))))
theorem aF_st1 {v0 : V} : putF "whom" v0 ([] : List (Str × V)) = ([(("whom" : Str), v0)] : List (Str × V)) := rfl
theorem aF_st2 {v0 v1 : V} : putF "number" v1 ([(("whom" : Str), v0)] : List (Str × V)) = ([(("whom" : Str), v0), (("number" : Str), v1)] : List (Str × V)) := (put_past (by decide +kernel)).trans (congrArg _ (rfl))
theorem aF_st3 {v0 v1 v2 : V} : putF "since" v2 ([(("whom" : Str), v0), (("number" : Str), v1)] : List (Str × V)) = ([(("whom" : Str), v0), (("number" : Str), v1), (("since" : Str), v2)] : List (Str × V)) := (put_past (by decide +kernel)).trans (congrArg _ ((put_past (by decide +kernel)).trans (congrArg _ (rfl))))
theorem aF_st4 {v0 v1 v2 v3 : V} : putF "helped" v3 ([(("whom" : Str), v0), (("number" : Str), v1), (("since" : Str), v2)] : List (Str × V)) = ([(("whom" : Str), v0), (("number" : Str), v1), (("since" : Str), v2), (("helped" : Str), v3)] : List (Str × V)) := (put_past (by decide +kernel)).trans (congrArg _ ((put_past (by decide +kernel)).trans (congrArg _ ((put_past (by decide +kernel)).trans (congrArg _ (rfl))))))
theorem aF_init {v0 v1 v2 v3 : V} : putF "helped" v3 (putF "since" v2 (putF "number" v1 (putF "whom" v0 ([])))) = aF v0 v1 v2 v3 := (congrArg (putF "helped" v3) ((congrArg (putF "since" v2) ((congrArg (putF "number" v1) (aF_st1)).trans aF_st2)).trans aF_st3)).trans aF_st4
def nF (v0 v1 v2 v3 v4 v5 v6 v7 v8 : V) : List (Str × V) := [("me", v0), ("runs", v1), ("own", v2), ("asked", v3), ("clock", v4), ("facts", v5), ("since", v6), ("asking", v7), ("for_others", v8)]
theorem nF_me {v0 v1 v2 v3 v4 v5 v6 v7 v8 : V} : (nF v0 v1 v2 v3 v4 v5 v6 v7 v8).lookup ("me" : Str) = some v0 := lk_here
theorem nF_put_me {x : V} {v0 v1 v2 v3 v4 v5 v6 v7 v8 : V} : putF "me" x (nF v0 v1 v2 v3 v4 v5 v6 v7 v8) = nF x v1 v2 v3 v4 v5 v6 v7 v8 := put_here
theorem nF_runs {v0 v1 v2 v3 v4 v5 v6 v7 v8 : V} : (nF v0 v1 v2 v3 v4 v5 v6 v7 v8).lookup ("runs" : Str) = some v1 := (lk_past (by decide +kernel)).trans (lk_here)
theorem nF_put_runs {x : V} {v0 v1 v2 v3 v4 v5 v6 v7 v8 : V} : putF "runs" x (nF v0 v1 v2 v3 v4 v5 v6 v7 v8) = nF v0 x v2 v3 v4 v5 v6 v7 v8 := (put_past (by decide +kernel)).trans (congrArg _ (put_here))
theorem nF_own {v0 v1 v2 v3 v4 v5 v6 v7 v8 : V} : (nF v0 v1 v2 v3 v4 v5 v6 v7 v8).lookup ("own" : Str) = some v2 := (lk_past (by decide +kernel)).trans ((lk_past (by decide +kernel)).trans (lk_here))
theorem nF_put_own {x : V} {v0 v1 v2 v3 v4 v5 v6 v7 v8 : V} : putF "own" x (nF v0 v1 v2 v3 v4 v5 v6 v7 v8) = nF v0 v1 x v3 v4 v5 v6 v7 v8 := (put_past (by decide +kernel)).trans (congrArg _ ((put_past (by decide +kernel)).trans (congrArg _ (put_here))))
theorem nF_asked {v0 v1 v2 v3 v4 v5 v6 v7 v8 : V} : (nF v0 v1 v2 v3 v4 v5 v6 v7 v8).lookup ("asked" : Str) = some v3 := (lk_past (by decide +kernel)).trans ((lk_past (by decide +kernel)).trans ((lk_past (by decide +kernel)).trans (lk_here)))
theorem nF_put_asked {x : V} {v0 v1 v2 v3 v4 v5 v6 v7 v8 : V} : putF "asked" x (nF v0 v1 v2 v3 v4 v5 v6 v7 v8) = nF v0 v1 v2 x v4 v5 v6 v7 v8 := (put_past (by decide +kernel)).trans (congrArg _ ((put_past (by decide +kernel)).trans (congrArg _ ((put_past (by decide +kernel)).trans (congrArg _ (put_here))))))
theorem nF_clock {v0 v1 v2 v3 v4 v5 v6 v7 v8 : V} : (nF v0 v1 v2 v3 v4 v5 v6 v7 v8).lookup ("clock" : Str) = some v4 := (lk_past (by decide +kernel)).trans ((lk_past (by decide +kernel)).trans ((lk_past (by decide +kernel)).trans ((lk_past (by decide +kernel)).trans (lk_here))))
theorem nF_put_clock {x : V} {v0 v1 v2 v3 v4 v5 v6 v7 v8 : V} : putF "clock" x (nF v0 v1 v2 v3 v4 v5 v6 v7 v8) = nF v0 v1 v2 v3 x v5 v6 v7 v8 := (put_past (by decide +kernel)).trans (congrArg _ ((put_past (by decide +kernel)).trans (congrArg _ ((put_past (by decide +kernel)).trans (congrArg _ ((put_past (by decide +kernel)).trans (congrArg _ (put_here))))))))
theorem nF_facts {v0 v1 v2 v3 v4 v5 v6 v7 v8 : V} : (nF v0 v1 v2 v3 v4 v5 v6 v7 v8).lookup ("facts" : Str) = some v5 := (lk_past (by decide +kernel)).trans ((lk_past (by decide +kernel)).trans ((lk_past (by decide +kernel)).trans ((lk_past (by decide +kernel)).trans ((lk_past (by decide +kernel)).trans (lk_here)))))
theorem nF_put_facts {x : V} {v0 v1 v2 v3 v4 v5 v6 v7 v8 : V} : putF "facts" x (nF v0 v1 v2 v3 v4 v5 v6 v7 v8) = nF v0 v1 v2 v3 v4 x v6 v7 v8 := (put_past (by decide +kernel)).trans (congrArg _ ((put_past (by decide +kernel)).trans (congrArg _ ((put_past (by decide +kernel)).trans (congrArg _ ((put_past (by decide +kernel)).trans (congrArg _ ((put_past (by decide +kernel)).trans (congrArg _ (put_here))))))))))
theorem nF_since {v0 v1 v2 v3 v4 v5 v6 v7 v8 : V} : (nF v0 v1 v2 v3 v4 v5 v6 v7 v8).lookup ("since" : Str) = some v6 := (lk_past (by decide +kernel)).trans ((lk_past (by decide +kernel)).trans ((lk_past (by decide +kernel)).trans ((lk_past (by decide +kernel)).trans ((lk_past (by decide +kernel)).trans ((lk_past (by decide +kernel)).trans (lk_here))))))
theorem nF_put_since {x : V} {v0 v1 v2 v3 v4 v5 v6 v7 v8 : V} : putF "since" x (nF v0 v1 v2 v3 v4 v5 v6 v7 v8) = nF v0 v1 v2 v3 v4 v5 x v7 v8 := (put_past (by decide +kernel)).trans (congrArg _ ((put_past (by decide +kernel)).trans (congrArg _ ((put_past (by decide +kernel)).trans (congrArg _ ((put_past (by decide +kernel)).trans (congrArg _ ((put_past (by decide +kernel)).trans (congrArg _ ((put_past (by decide +kernel)).trans (congrArg _ (put_here))))))))))))
theorem nF_asking {v0 v1 v2 v3 v4 v5 v6 v7 v8 : V} : (nF v0 v1 v2 v3 v4 v5 v6 v7 v8).lookup ("asking" : Str) = some v7 := (lk_past (by decide +kernel)).trans ((lk_past (by decide +kernel)).trans ((lk_past (by decide +kernel)).trans ((lk_past (by decide +kernel)).trans ((lk_past (by decide +kernel)).trans ((lk_past (by decide +kernel)).trans ((lk_past (by decide +kernel)).trans (lk_here)))))))
theorem nF_put_asking {x : V} {v0 v1 v2 v3 v4 v5 v6 v7 v8 : V} : putF "asking" x (nF v0 v1 v2 v3 v4 v5 v6 v7 v8) = nF v0 v1 v2 v3 v4 v5 v6 x v8 := (put_past (by decide +kernel)).trans (congrArg _ ((put_past (by decide +kernel)).trans (congrArg _ ((put_past (by decide +kernel)).trans (congrArg _ ((put_past (by decide +kernel)).trans (congrArg _ ((put_past (by decide +kernel)).trans (congrArg _ ((put_past (by decide +kernel)).trans (congrArg _ ((put_past (by decide +kernel)).trans (congrArg _ (put_here))))))))))))))
theorem nF_for_others {v0 v1 v2 v3 v4 v5 v6 v7 v8 : V} : (nF v0 v1 v2 v3 v4 v5 v6 v7 v8).lookup ("for_others" : Str) = some v8 := (lk_past (by decide +kernel)).trans ((lk_past (by decide +kernel)).trans ((lk_past (by decide +kernel)).trans ((lk_past (by decide +kernel)).trans ((lk_past (by decide +kernel)).trans ((lk_past (by decide +kernel)).trans ((lk_past (by decide +kernel)).trans ((lk_past (by decide +kernel)).trans (lk_here))))))))
theorem nF_put_for_others {x : V} {v0 v1 v2 v3 v4 v5 v6 v7 v8 : V} : putF "for_others" x (nF v0 v1 v2 v3 v4 v5 v6 v7 v8) = nF v0 v1 v2 v3 v4 v5 v6 v7 x := (put_past (by decide +kernel)).trans (congrArg _ ((put_past (by decide +kernel)).trans (congrArg _ ((put_past (by decide +kernel)).trans (congrArg _ ((put_past (by decide +kernel)).trans (congrArg _ ((put_past (by decide +kernel)).trans (congrArg _ ((put_past (by decide +kernel)).trans (congrArg _ ((put_past (by decide +kernel)).trans (congrArg _ ((put_past (by decide +kernel)).trans (congrArg _ (put_here))))))))))))))))
theorem nF_no_forget {v0 v1 v2 v3 v4 v5 v6 v7 v8 : V} : (nF v0 v1 v2 v3 v4 v5 v6 v7 v8).lookup ("forget" : Str) = none := (lk_past (by decide +kernel)).trans ((lk_past (by decide +kernel)).trans ((lk_past (by decide +kernel)).trans ((lk_past (by decide +kernel)).trans ((lk_past (by decide +kernel)).trans ((lk_past (by decide +kernel)).trans ((lk_past (by decide +kernel)).trans ((lk_past (by decide +kernel)).trans ((lk_past (by decide +kernel)).trans (rfl)))))))))
theorem nF_no_begin_anew {v0 v1 v2 v3 v4 v5 v6 v7 v8 : V} : (nF v0 v1 v2 v3 v4 v5 v6 v7 v8).lookup ("begin_anew" : Str) = none := (lk_past (by decide +kernel)).trans ((lk_past (by decide +kernel)).trans ((lk_past (by decide +kernel)).trans ((lk_past (by decide +kernel)).trans ((lk_past (by decide +kernel)).trans ((lk_past (by decide +kernel)).trans ((lk_past (by decide +kernel)).trans ((lk_past (by decide +kernel)).trans ((lk_past (by decide +kernel)).trans (rfl)))))))))
theorem nF_no_has_passed {v0 v1 v2 v3 v4 v5 v6 v7 v8 : V} : (nF v0 v1 v2 v3 v4 v5 v6 v7 v8).lookup ("has_passed" : Str) = none := (lk_past (by decide +kernel)).trans ((lk_past (by decide +kernel)).trans ((lk_past (by decide +kernel)).trans ((lk_past (by decide +kernel)).trans ((lk_past (by decide +kernel)).trans ((lk_past (by decide +kernel)).trans ((lk_past (by decide +kernel)).trans ((lk_past (by decide +kernel)).trans ((lk_past (by decide +kernel)).trans (rfl)))))))))
theorem nF_no_learn {v0 v1 v2 v3 v4 v5 v6 v7 v8 : V} : (nF v0 v1 v2 v3 v4 v5 v6 v7 v8).lookup ("learn" : Str) = none := (lk_past (by decide +kernel)).trans ((lk_past (by decide +kernel)).trans ((lk_past (by decide +kernel)).trans ((lk_past (by decide +kernel)).trans ((lk_past (by decide +kernel)).trans ((lk_past (by decide +kernel)).trans ((lk_past (by decide +kernel)).trans ((lk_past (by decide +kernel)).trans ((lk_past (by decide +kernel)).trans (rfl)))))))))
theorem nF_no_hear {v0 v1 v2 v3 v4 v5 v6 v7 v8 : V} : (nF v0 v1 v2 v3 v4 v5 v6 v7 v8).lookup ("hear" : Str) = none := (lk_past (by decide +kernel)).trans ((lk_past (by decide +kernel)).trans ((lk_past (by decide +kernel)).trans ((lk_past (by decide +kernel)).trans ((lk_past (by decide +kernel)).trans ((lk_past (by decide +kernel)).trans ((lk_past (by decide +kernel)).trans ((lk_past (by decide +kernel)).trans ((lk_past (by decide +kernel)).trans (rfl)))))))))
theorem nF_no_hear_of_itself {v0 v1 v2 v3 v4 v5 v6 v7 v8 : V} : (nF v0 v1 v2 v3 v4 v5 v6 v7 v8).lookup ("hear_of_itself" : Str) = none := (lk_past (by decide +kernel)).trans ((lk_past (by decide +kernel)).trans ((lk_past (by decide +kernel)).trans ((lk_past (by decide +kernel)).trans ((lk_past (by decide +kernel)).trans ((lk_past (by decide +kernel)).trans ((lk_past (by decide +kernel)).trans ((lk_past (by decide +kernel)).trans ((lk_past (by decide +kernel)).trans (rfl)))))))))
theorem nF_no_give_up {v0 v1 v2 v3 v4 v5 v6 v7 v8 : V} : (nF v0 v1 v2 v3 v4 v5 v6 v7 v8).lookup ("give_up" : Str) = none := (lk_past (by decide +kernel)).trans ((lk_past (by decide +kernel)).trans ((lk_past (by decide +kernel)).trans ((lk_past (by decide +kernel)).trans ((lk_past (by decide +kernel)).trans ((lk_past (by decide +kernel)).trans ((lk_past (by decide +kernel)).trans ((lk_past (by decide +kernel)).trans ((lk_past (by decide +kernel)).trans (rfl)))))))))
theorem nF_no_numbers {v0 v1 v2 v3 v4 v5 v6 v7 v8 : V} : (nF v0 v1 v2 v3 v4 v5 v6 v7 v8).lookup ("numbers" : Str) = none := (lk_past (by decide +kernel)).trans ((lk_past (by decide +kernel)).trans ((lk_past (by decide +kernel)).trans ((lk_past (by decide +kernel)).trans ((lk_past (by decide +kernel)).trans ((lk_past (by decide +kernel)).trans ((lk_past (by decide +kernel)).trans ((lk_past (by decide +kernel)).trans ((lk_past (by decide +kernel)).trans (rfl)))))))))
theorem nF_no_seen {v0 v1 v2 v3 v4 v5 v6 v7 v8 : V} : (nF v0 v1 v2 v3 v4 v5 v6 v7 v8).lookup ("seen" : Str) = none := (lk_past (by decide +kernel)).trans ((lk_past (by decide +kernel)).trans ((lk_past (by decide +kernel)).trans ((lk_past (by decide +kernel)).trans ((lk_past (by decide +kernel)).trans ((lk_past (by decide +kernel)).trans ((lk_past (by decide +kernel)).trans ((lk_past (by decide +kernel)).trans ((lk_past (by decide +kernel)).trans (rfl)))))))))
theorem nF_st1 {v0 : V} : putF "me" v0 ([] : List (Str × V)) = ([(("me" : Str), v0)] : List (Str × V)) := rfl
theorem nF_st2 {v0 v1 : V} : putF "runs" v1 ([(("me" : Str), v0)] : List (Str × V)) = ([(("me" : Str), v0), (("runs" : Str), v1)] : List (Str × V)) := (put_past (by decide +kernel)).trans (congrArg _ (rfl))
theorem nF_st3 {v0 v1 v2 : V} : putF "own" v2 ([(("me" : Str), v0), (("runs" : Str), v1)] : List (Str × V)) = ([(("me" : Str), v0), (("runs" : Str), v1), (("own" : Str), v2)] : List (Str × V)) := (put_past (by decide +kernel)).trans (congrArg _ ((put_past (by decide +kernel)).trans (congrArg _ (rfl))))
theorem nF_st4 {v0 v1 v2 v3 : V} : putF "asked" v3 ([(("me" : Str), v0), (("runs" : Str), v1), (("own" : Str), v2)] : List (Str × V)) = ([(("me" : Str), v0), (("runs" : Str), v1), (("own" : Str), v2), (("asked" : Str), v3)] : List (Str × V)) := (put_past (by decide +kernel)).trans (congrArg _ ((put_past (by decide +kernel)).trans (congrArg _ ((put_past (by decide +kernel)).trans (congrArg _ (rfl))))))
theorem nF_st5 {v0 v1 v2 v3 v4 : V} : putF "clock" v4 ([(("me" : Str), v0), (("runs" : Str), v1), (("own" : Str), v2), (("asked" : Str), v3)] : List (Str × V)) = ([(("me" : Str), v0), (("runs" : Str), v1), (("own" : Str), v2), (("asked" : Str), v3), (("clock" : Str), v4)] : List (Str × V)) := (put_past (by decide +kernel)).trans (congrArg _ ((put_past (by decide +kernel)).trans (congrArg _ ((put_past (by decide +kernel)).trans (congrArg _ ((put_past (by decide +kernel)).trans (congrArg _ (rfl))))))))
theorem nF_st6 {v0 v1 v2 v3 v4 v5 : V} : putF "facts" v5 ([(("me" : Str), v0), (("runs" : Str), v1), (("own" : Str), v2), (("asked" : Str), v3), (("clock" : Str), v4)] : List (Str × V)) = ([(("me" : Str), v0), (("runs" : Str), v1), (("own" : Str), v2), (("asked" : Str), v3), (("clock" : Str), v4), (("facts" : Str), v5)] : List (Str × V)) := (put_past (by decide +kernel)).trans (congrArg _ ((put_past (by decide +kernel)).trans (congrArg _ ((put_past (by decide +kernel)).trans (congrArg _ ((put_past (by decide +kernel)).trans (congrArg _ ((put_past (by decide +kernel)).trans (congrArg _ (rfl))))))))))
theorem nF_st7 {v0 v1 v2 v3 v4 v5 v6 : V} : putF "since" v6 ([(("me" : Str), v0), (("runs" : Str), v1), (("own" : Str), v2), (("asked" : Str), v3), (("clock" : Str), v4), (("facts" : Str), v5)] : List (Str × V)) = ([(("me" : Str), v0), (("runs" : Str), v1), (("own" : Str), v2), (("asked" : Str), v3), (("clock" : Str), v4), (("facts" : Str), v5), (("since" : Str), v6)] : List (Str × V)) := (put_past (by decide +kernel)).trans (congrArg _ ((put_past (by decide +kernel)).trans (congrArg _ ((put_past (by decide +kernel)).trans (congrArg _ ((put_past (by decide +kernel)).trans (congrArg _ ((put_past (by decide +kernel)).trans (congrArg _ ((put_past (by decide +kernel)).trans (congrArg _ (rfl))))))))))))
theorem nF_st8 {v0 v1 v2 v3 v4 v5 v6 v7 : V} : putF "asking" v7 ([(("me" : Str), v0), (("runs" : Str), v1), (("own" : Str), v2), (("asked" : Str), v3), (("clock" : Str), v4), (("facts" : Str), v5), (("since" : Str), v6)] : List (Str × V)) = ([(("me" : Str), v0), (("runs" : Str), v1), (("own" : Str), v2), (("asked" : Str), v3), (("clock" : Str), v4), (("facts" : Str), v5), (("since" : Str), v6), (("asking" : Str), v7)] : List (Str × V)) := (put_past (by decide +kernel)).trans (congrArg _ ((put_past (by decide +kernel)).trans (congrArg _ ((put_past (by decide +kernel)).trans (congrArg _ ((put_past (by decide +kernel)).trans (congrArg _ ((put_past (by decide +kernel)).trans (congrArg _ ((put_past (by decide +kernel)).trans (congrArg _ ((put_past (by decide +kernel)).trans (congrArg _ (rfl))))))))))))))
theorem nF_st9 {v0 v1 v2 v3 v4 v5 v6 v7 v8 : V} : putF "for_others" v8 ([(("me" : Str), v0), (("runs" : Str), v1), (("own" : Str), v2), (("asked" : Str), v3), (("clock" : Str), v4), (("facts" : Str), v5), (("since" : Str), v6), (("asking" : Str), v7)] : List (Str × V)) = ([(("me" : Str), v0), (("runs" : Str), v1), (("own" : Str), v2), (("asked" : Str), v3), (("clock" : Str), v4), (("facts" : Str), v5), (("since" : Str), v6), (("asking" : Str), v7), (("for_others" : Str), v8)] : List (Str × V)) := (put_past (by decide +kernel)).trans (congrArg _ ((put_past (by decide +kernel)).trans (congrArg _ ((put_past (by decide +kernel)).trans (congrArg _ ((put_past (by decide +kernel)).trans (congrArg _ ((put_past (by decide +kernel)).trans (congrArg _ ((put_past (by decide +kernel)).trans (congrArg _ ((put_past (by decide +kernel)).trans (congrArg _ ((put_past (by decide +kernel)).trans (congrArg _ (rfl))))))))))))))))
theorem nF_init {v0 v1 v2 v3 v4 v5 v6 v7 v8 : V} : putF "for_others" v8 (putF "asking" v7 (putF "since" v6 (putF "facts" v5 (putF "clock" v4 (putF "asked" v3 (putF "own" v2 (putF "runs" v1 (putF "me" v0 ([]))))))))) = nF v0 v1 v2 v3 v4 v5 v6 v7 v8 := (congrArg (putF "for_others" v8) ((congrArg (putF "asking" v7) ((congrArg (putF "since" v6) ((congrArg (putF "facts" v5) ((congrArg (putF "clock" v4) ((congrArg (putF "asked" v3) ((congrArg (putF "own" v2) ((congrArg (putF "runs" v1) (nF_st1)).trans nF_st2)).trans nF_st3)).trans nF_st4)).trans nF_st5)).trans nF_st6)).trans nF_st7)).trans nF_st8)).trans nF_st9
def wF (v0 v1 v2 v3 v4 : V) : List (Str × V) := [("wait", v0), ("patience", v1), ("nodes", v2), ("row", v3), ("blamed", v4)]
theorem wF_wait {v0 v1 v2 v3 v4 : V} : (wF v0 v1 v2 v3 v4).lookup ("wait" : Str) = some v0 := lk_here
theorem wF_put_wait {x : V} {v0 v1 v2 v3 v4 : V} : putF "wait" x (wF v0 v1 v2 v3 v4) = wF x v1 v2 v3 v4 := put_here
theorem wF_patience {v0 v1 v2 v3 v4 : V} : (wF v0 v1 v2 v3 v4).lookup ("patience" : Str) = some v1 := (lk_past (by decide +kernel)).trans (lk_here)
theorem wF_put_patience {x : V} {v0 v1 v2 v3 v4 : V} : putF "patience" x (wF v0 v1 v2 v3 v4) = wF v0 x v2 v3 v4 := (put_past (by decide +kernel)).trans (congrArg _ (put_here))
theorem wF_nodes {v0 v1 v2 v3 v4 : V} : (wF v0 v1 v2 v3 v4).lookup ("nodes" : Str) = some v2 := (lk_past (by decide +kernel)).trans ((lk_past (by decide +kernel)).trans (lk_here))
theorem wF_put_nodes {x : V} {v0 v1 v2 v3 v4 : V} : putF "nodes" x (wF v0 v1 v2 v3 v4) = wF v0 v1 x v3 v4 := (put_past (by decide +kernel)).trans (congrArg _ ((put_past (by decide +kernel)).trans (congrArg _ (put_here))))
theorem wF_row {v0 v1 v2 v3 v4 : V} : (wF v0 v1 v2 v3 v4).lookup ("row" : Str) = some v3 := (lk_past (by decide +kernel)).trans ((lk_past (by decide +kernel)).trans ((lk_past (by decide +kernel)).trans (lk_here)))
theorem wF_put_row {x : V} {v0 v1 v2 v3 v4 : V} : putF "row" x (wF v0 v1 v2 v3 v4) = wF v0 v1 v2 x v4 := (put_past (by decide +kernel)).trans (congrArg _ ((put_past (by decide +kernel)).trans (congrArg _ ((put_past (by decide +kernel)).trans (congrArg _ (put_here))))))
theorem wF_blamed {v0 v1 v2 v3 v4 : V} : (wF v0 v1 v2 v3 v4).lookup ("blamed" : Str) = some v4 := (lk_past (by decide +kernel)).trans ((lk_past (by decide +kernel)).trans ((lk_past (by decide +kernel)).trans ((lk_past (by decide +kernel)).trans (lk_here))))
theorem wF_put_blamed {x : V} {v0 v1 v2 v3 v4 : V} : putF "blamed" x (wF v0 v1 v2 v3 v4) = wF v0 v1 v2 v3 x := (put_past (by decide +kernel)).trans (congrArg _ ((put_past (by decide +kernel)).trans (congrArg _ ((put_past (by decide +kernel)).trans (congrArg _ ((put_past (by decide +kernel)).trans (congrArg _ (put_here))))))))
theorem wF_no_has_node {v0 v1 v2 v3 v4 : V} : (wF v0 v1 v2 v3 v4).lookup ("has_node" : Str) = none := (lk_past (by decide +kernel)).trans ((lk_past (by decide +kernel)).trans ((lk_past (by decide +kernel)).trans ((lk_past (by decide +kernel)).trans ((lk_past (by decide +kernel)).trans (rfl)))))
theorem wF_no_has_letter {v0 v1 v2 v3 v4 : V} : (wF v0 v1 v2 v3 v4).lookup ("has_letter" : Str) = none := (lk_past (by decide +kernel)).trans ((lk_past (by decide +kernel)).trans ((lk_past (by decide +kernel)).trans ((lk_past (by decide +kernel)).trans ((lk_past (by decide +kernel)).trans (rfl)))))
theorem wF_no_send {v0 v1 v2 v3 v4 : V} : (wF v0 v1 v2 v3 v4).lookup ("send" : Str) = none := (lk_past (by decide +kernel)).trans ((lk_past (by decide +kernel)).trans ((lk_past (by decide +kernel)).trans ((lk_past (by decide +kernel)).trans ((lk_past (by decide +kernel)).trans (rfl)))))
theorem wF_no_probe {v0 v1 v2 v3 v4 : V} : (wF v0 v1 v2 v3 v4).lookup ("probe" : Str) = none := (lk_past (by decide +kernel)).trans ((lk_past (by decide +kernel)).trans ((lk_past (by decide +kernel)).trans ((lk_past (by decide +kernel)).trans ((lk_past (by decide +kernel)).trans (rfl)))))
theorem wF_no_tick {v0 v1 v2 v3 v4 : V} : (wF v0 v1 v2 v3 v4).lookup ("tick" : Str) = none := (lk_past (by decide +kernel)).trans ((lk_past (by decide +kernel)).trans ((lk_past (by decide +kernel)).trans ((lk_past (by decide +kernel)).trans ((lk_past (by decide +kernel)).trans (rfl)))))
theorem wF_no_wait_on {v0 v1 v2 v3 v4 : V} : (wF v0 v1 v2 v3 v4).lookup ("wait_on" : Str) = none := (lk_past (by decide +kernel)).trans ((lk_past (by decide +kernel)).trans ((lk_past (by decide +kernel)).trans ((lk_past (by decide +kernel)).trans ((lk_past (by decide +kernel)).trans (rfl)))))
theorem wF_no_call_for_help {v0 v1 v2 v3 v4 : V} : (wF v0 v1 v2 v3 v4).lookup ("call_for_help" : Str) = none := (lk_past (by decide +kernel)).trans ((lk_past (by decide +kernel)).trans ((lk_past (by decide +kernel)).trans ((lk_past (by decide +kernel)).trans ((lk_past (by decide +kernel)).trans (rfl)))))
theorem wF_no_blame {v0 v1 v2 v3 v4 : V} : (wF v0 v1 v2 v3 v4).lookup ("blame" : Str) = none := (lk_past (by decide +kernel)).trans ((lk_past (by decide +kernel)).trans ((lk_past (by decide +kernel)).trans ((lk_past (by decide +kernel)).trans ((lk_past (by decide +kernel)).trans (rfl)))))
theorem wF_no_take {v0 v1 v2 v3 v4 : V} : (wF v0 v1 v2 v3 v4).lookup ("take" : Str) = none := (lk_past (by decide +kernel)).trans ((lk_past (by decide +kernel)).trans ((lk_past (by decide +kernel)).trans ((lk_past (by decide +kernel)).trans ((lk_past (by decide +kernel)).trans (rfl)))))
theorem wF_no_keep {v0 v1 v2 v3 v4 : V} : (wF v0 v1 v2 v3 v4).lookup ("keep" : Str) = none := (lk_past (by decide +kernel)).trans ((lk_past (by decide +kernel)).trans ((lk_past (by decide +kernel)).trans ((lk_past (by decide +kernel)).trans ((lk_past (by decide +kernel)).trans (rfl)))))
theorem wF_no_lose {v0 v1 v2 v3 v4 : V} : (wF v0 v1 v2 v3 v4).lookup ("lose" : Str) = none := (lk_past (by decide +kernel)).trans ((lk_past (by decide +kernel)).trans ((lk_past (by decide +kernel)).trans ((lk_past (by decide +kernel)).trans ((lk_past (by decide +kernel)).trans (rfl)))))
theorem wF_no_hand_over {v0 v1 v2 v3 v4 : V} : (wF v0 v1 v2 v3 v4).lookup ("hand_over" : Str) = none := (lk_past (by decide +kernel)).trans ((lk_past (by decide +kernel)).trans ((lk_past (by decide +kernel)).trans ((lk_past (by decide +kernel)).trans ((lk_past (by decide +kernel)).trans (rfl)))))
theorem wF_no_get_here {v0 v1 v2 v3 v4 : V} : (wF v0 v1 v2 v3 v4).lookup ("get_here" : Str) = none := (lk_past (by decide +kernel)).trans ((lk_past (by decide +kernel)).trans ((lk_past (by decide +kernel)).trans ((lk_past (by decide +kernel)).trans ((lk_past (by decide +kernel)).trans (rfl)))))
theorem wF_no_ask_for_another {v0 v1 v2 v3 v4 : V} : (wF v0 v1 v2 v3 v4).lookup ("ask_for_another" : Str) = none := (lk_past (by decide +kernel)).trans ((lk_past (by decide +kernel)).trans ((lk_past (by decide +kernel)).trans ((lk_past (by decide +kernel)).trans ((lk_past (by decide +kernel)).trans (rfl)))))
theorem wF_no_stop_node {v0 v1 v2 v3 v4 : V} : (wF v0 v1 v2 v3 v4).lookup ("stop_node" : Str) = none := (lk_past (by decide +kernel)).trans ((lk_past (by decide +kernel)).trans ((lk_past (by decide +kernel)).trans ((lk_past (by decide +kernel)).trans ((lk_past (by decide +kernel)).trans (rfl)))))
theorem wF_no_start_node {v0 v1 v2 v3 v4 : V} : (wF v0 v1 v2 v3 v4).lookup ("start_node" : Str) = none := (lk_past (by decide +kernel)).trans ((lk_past (by decide +kernel)).trans ((lk_past (by decide +kernel)).trans ((lk_past (by decide +kernel)).trans ((lk_past (by decide +kernel)).trans (rfl)))))
theorem wF_no_tell_letters {v0 v1 v2 v3 v4 : V} : (wF v0 v1 v2 v3 v4).lookup ("tell_letters" : Str) = none := (lk_past (by decide +kernel)).trans ((lk_past (by decide +kernel)).trans ((lk_past (by decide +kernel)).trans ((lk_past (by decide +kernel)).trans ((lk_past (by decide +kernel)).trans (rfl)))))
theorem wF_no_tell_node {v0 v1 v2 v3 v4 : V} : (wF v0 v1 v2 v3 v4).lookup ("tell_node" : Str) = none := (lk_past (by decide +kernel)).trans ((lk_past (by decide +kernel)).trans ((lk_past (by decide +kernel)).trans ((lk_past (by decide +kernel)).trans ((lk_past (by decide +kernel)).trans (rfl)))))
theorem wF_no_tell_seen {v0 v1 v2 v3 v4 : V} : (wF v0 v1 v2 v3 v4).lookup ("tell_seen" : Str) = none := (lk_past (by decide +kernel)).trans ((lk_past (by decide +kernel)).trans ((lk_past (by decide +kernel)).trans ((lk_past (by decide +kernel)).trans ((lk_past (by decide +kernel)).trans (rfl)))))
theorem wF_no_tell_blames {v0 v1 v2 v3 v4 : V} : (wF v0 v1 v2 v3 v4).lookup ("tell_blames" : Str) = none := (lk_past (by decide +kernel)).trans ((lk_past (by decide +kernel)).trans ((lk_past (by decide +kernel)).trans ((lk_past (by decide +kernel)).trans ((lk_past (by decide +kernel)).trans (rfl)))))
theorem wF_st1 {v0 : V} : putF "wait" v0 ([] : List (Str × V)) = ([(("wait" : Str), v0)] : List (Str × V)) := rfl
theorem wF_st2 {v0 v1 : V} : putF "patience" v1 ([(("wait" : Str), v0)] : List (Str × V)) = ([(("wait" : Str), v0), (("patience" : Str), v1)] : List (Str × V)) := (put_past (by decide +kernel)).trans (congrArg _ (rfl))
theorem wF_st3 {v0 v1 v2 : V} : putF "nodes" v2 ([(("wait" : Str), v0), (("patience" : Str), v1)] : List (Str × V)) = ([(("wait" : Str), v0), (("patience" : Str), v1), (("nodes" : Str), v2)] : List (Str × V)) := (put_past (by decide +kernel)).trans (congrArg _ ((put_past (by decide +kernel)).trans (congrArg _ (rfl))))
theorem wF_st4 {v0 v1 v2 v3 : V} : putF "row" v3 ([(("wait" : Str), v0), (("patience" : Str), v1), (("nodes" : Str), v2)] : List (Str × V)) = ([(("wait" : Str), v0), (("patience" : Str), v1), (("nodes" : Str), v2), (("row" : Str), v3)] : List (Str × V)) := (put_past (by decide +kernel)).trans (congrArg _ ((put_past (by decide +kernel)).trans (congrArg _ ((put_past (by decide +kernel)).trans (congrArg _ (rfl))))))
theorem wF_st5 {v0 v1 v2 v3 v4 : V} : putF "blamed" v4 ([(("wait" : Str), v0), (("patience" : Str), v1), (("nodes" : Str), v2), (("row" : Str), v3)] : List (Str × V)) = ([(("wait" : Str), v0), (("patience" : Str), v1), (("nodes" : Str), v2), (("row" : Str), v3), (("blamed" : Str), v4)] : List (Str × V)) := (put_past (by decide +kernel)).trans (congrArg _ ((put_past (by decide +kernel)).trans (congrArg _ ((put_past (by decide +kernel)).trans (congrArg _ ((put_past (by decide +kernel)).trans (congrArg _ (rfl))))))))
theorem wF_init {v0 v1 v2 v3 v4 : V} : putF "blamed" v4 (putF "row" v3 (putF "nodes" v2 (putF "patience" v1 (putF "wait" v0 ([]))))) = wF v0 v1 v2 v3 v4 := (congrArg (putF "blamed" v4) ((congrArg (putF "row" v3) ((congrArg (putF "nodes" v2) ((congrArg (putF "patience" v1) (wF_st1)).trans wF_st2)).trans wF_st3)).trans wF_st4)).trans wF_st5
def iF (v0 : V) : List (Str × V) := [("world", v0)]
theorem iF_world {v0 : V} : (iF v0).lookup ("world" : Str) = some v0 := lk_here
theorem iF_put_world {x : V} {v0 : V} : putF "world" x (iF v0) = iF x := put_here
theorem iF_no_begin {v0 : V} : (iF v0).lookup ("begin" : Str) = none := (lk_past (by decide +kernel)).trans (rfl)
theorem iF_no_answer {v0 : V} : (iF v0).lookup ("answer" : Str) = none := (lk_past (by decide +kernel)).trans (rfl)
theorem iF_st1 {v0 : V} : putF "world" v0 ([] : List (Str × V)) = ([(("world" : Str), v0)] : List (Str × V)) := rfl
theorem iF_init {v0 : V} : putF "world" v0 ([]) = iF v0 := iF_st1
/-! ### ghosts: whose an address is -/
inductive Tg where
  | out | imm | world | nodes | row | blamed
  | node (i : Nat) | facts (i : Nat) | since (i : Nat) | dict (i : Nat) | ask (i : Nat)
/-- what belongs to the node i -/
def grp (i : Nat) : Tg → Prop
  | .node j => j = i
  | .facts j => j = i
  | .since j => j = i
  | .dict j => j = i
  | .ask j => j = i
  | _ => False
abbrev Gh := Addr → Tg
def At (g : Gh) (H : Hp) (a : Addr) (t : Tg) (o : HO) : Prop := H a = some o ∧ g a = t
def isTup : HO → Prop
  | .tup _ => True
  | _ => False
/-- from (g, H) to (g', H') only what bears a tag of T has changed; tuples never do; what was there has kept its tag and is there -/
def Mv (T : Tg → Prop) (g : Gh) (H : Hp) (g' : Gh) (H' : Hp) : Prop := ∀ b o, H b = some o → g' b = g b ∧ (∃ o', H' b = some o') ∧ (¬ T (g b) ∨ isTup o → H' b = some o)
theorem Mv.refl {T : Tg → Prop} {g : Gh} {H : Hp} : Mv T g H g H := fun _ o h => ⟨rfl, ⟨o, h⟩, fun _ => h⟩
theorem Mv.trans {T : Tg → Prop} {g g1 g2 : Gh} {H H1 H2 : Hp} (m : Mv T g H g1 H1) (n : Mv T g1 H1 g2 H2) : Mv T g H g2 H2 := fun b o h => by
  obtain ⟨e, ⟨o1, h1⟩, k⟩ := m b o h
  obtain ⟨e2, h2, k2⟩ := n b o1 h1
  refine ⟨e2.trans e, h2, fun c => ?_⟩
  have q := k c
  rw [h1] at q
  cases q
  refine k2 ?_
  rw [e]
  exact c
theorem Mv.mono {T T' : Tg → Prop} {g g1 : Gh} {H H1 : Hp} (m : Mv T g H g1 H1) (s : ∀ t, T t → T' t) : Mv T' g H g1 H1 := fun b o h => by
  obtain ⟨e, h1, k⟩ := m b o h
  exact ⟨e, h1, fun c => k (c.imp (fun n z => n (s _ z)) id)⟩
theorem Mv.tup {T : Tg → Prop} {g g1 : Gh} {H H1 : Hp} {b : Addr} {xs : List V} (m : Mv T g H g1 H1) (h : H b = some (.tup xs)) : H1 b = some (.tup xs) := (m b _ h).2.2 (.inr True.intro)
/-- a store to what is there -/
theorem Mv.put {T : Tg → Prop} {g : Gh} {H : Hp} {p : Addr} {t : Tg} {o o' : HO} (h : At g H p t o) (ht : T t) (hn : ¬ isTup o) : Mv T g H g (upd H p o') := fun b u hb => by
  by_cases e : b = p
  · subst e
    rw [h.1] at hb
    cases hb
    refine ⟨rfl, ⟨o', upd_same⟩, fun c => ?_⟩
    rcases c with c | c
    · exact absurd (by rw [h.2]; exact ht) c
    · exact absurd c hn
  · exact ⟨rfl, ⟨u, by rw [upd_ne e]; exact hb⟩, fun _ => by rw [upd_ne e]; exact hb⟩
/-- a new object, its tag as one likes -/
def tag (g : Gh) (p : Addr) (t : Tg) : Gh := fun b => if b = p then t else g b
theorem tag_same {g : Gh} {p : Addr} {t : Tg} : tag g p t p = t := if_pos rfl
theorem tag_ne {g : Gh} {p b : Addr} {t : Tg} (h : b ≠ p) : tag g p t b = g b := if_neg h
theorem Mv.new {T : Tg → Prop} {g : Gh} {H : Hp} {p : Addr} {o : HO} (t : Tg) (h : H p = none) : Mv T g H (tag g p t) (upd H p o) := fun b u hb => by
  have e : b ≠ p := ne_of_none hb h
  exact ⟨tag_ne e, ⟨u, by rw [upd_ne e]; exact hb⟩, fun _ => by rw [upd_ne e]; exact hb⟩
theorem Mv.new0 {T : Tg → Prop} {g : Gh} {H : Hp} {p : Addr} {o : HO} (h : H p = none) : Mv T g H g (upd H p o) := fun b u hb => by
  have e : b ≠ p := ne_of_none hb h
  exact ⟨rfl, ⟨u, by rw [upd_ne e]; exact hb⟩, fun _ => by rw [upd_ne e]; exact hb⟩
theorem At.keep {T : Tg → Prop} {g g' : Gh} {H H' : Hp} {a : Addr} {t : Tg} {o : HO} (m : Mv T g H g' H') (n : ¬ T t) (h : At g H a t o) : At g' H' a t o := by
  obtain ⟨h1, h2⟩ := h
  obtain ⟨e, _, k⟩ := m a o h1
  exact ⟨k (.inl (by rw [h2]; exact n)), e.trans h2⟩
theorem At.ne {g : Gh} {H : Hp} {a b : Addr} {t u : Tg} {o o' : HO} (h : At g H a t o) (h' : At g H b u o') (d : t ≠ u) : a ≠ b := fun e => d (by rw [← h.2, ← h'.2, e])
theorem At.put {g : Gh} {H : Hp} {a : Addr} {t : Tg} {o o' : HO} (h : At g H a t o) : At g (upd H a o') a t o' := ⟨upd_same, h.2⟩
theorem At.past {g : Gh} {H : Hp} {a b : Addr} {t u : Tg} {o o' o2 : HO} (h : At g H a t o) (h' : At g H b u o') (d : t ≠ u) : At g (upd H b o2) a t o := ⟨by rw [upd_ne (h.ne h' d)]; exact h.1, h.2⟩
theorem At.fresh {g : Gh} {H : Hp} {a p : Addr} {t : Tg} {o o2 : HO} (h : At g H a t o) (hp : H p = none) : At g (upd H p o2) a t o := ⟨by rw [upd_ne (ne_of_none h.1 hp)]; exact h.1, h.2⟩

/-! ### lists side by side -/
theorem paired_len {α β : Type} {F : α → β → Prop} {l : List α} {m : List β} (h : Paired F l m) : l.length = m.length := Paired.length h
theorem paired_at {α β : Type} {F : α → β → Prop} : ∀ {l : List α} {m : List β}, Paired F l m → ∀ {i : Nat} {b : β}, m[i]? = some b → ∃ a, l[i]? = some a ∧ F a b
  | _, _, .nil, i, b, e => by simp at e
  | _, _, .cons r _, 0, b, e => by simp at e; subst e; exact ⟨_, rfl, r⟩
  | _, _, .cons _ t, i + 1, b, e => by
    obtain ⟨a, h1, h2⟩ := paired_at t (i := i) (b := b) (by simpa using e)
    exact ⟨a, by simpa using h1, h2⟩
theorem paired_set {α β : Type} {F : α → β → Prop} {a : α} {b : β} (r : F a b) : ∀ {l : List α} {m : List β} (i : Nat), Paired F l m → Paired F (l.set i a) (m.set i b)
  | _, _, _, .nil => .nil
  | _, _, 0, .cons _ t => .cons r t
  | _, _, i + 1, .cons q t => .cons q (paired_set r i t)
theorem paired_erase {α β : Type} {F : α → β → Prop} : ∀ {l : List α} {m : List β} (i : Nat), Paired F l m → Paired F (l.eraseIdx i) (m.eraseIdx i)
  | _, _, _, .nil => .nil
  | _, _, 0, .cons _ t => t
  | _, _, i + 1, .cons q t => .cons q (paired_erase i t)
theorem paired_mono {α β : Type} {F F' : α → β → Prop} (hm : ∀ a b, F a b → F' a b) {l : List α} {m : List β} (h : Paired F l m) : Paired F' l m := Paired.mono hm h
theorem paired_snoc {α β : Type} {F : α → β → Prop} {l : List α} {m : List β} {a : α} {b : β} (h : Paired F l m) (r : F a b) : Paired F (l ++ [a]) (m ++ [b]) := Paired.snoc h r

/-! ### the objects -/
def FactAt (H : Hp) (v : V) (f : Ag11.Fact) : Prop := ∃ t, v = .ref t ∧ H t = some (.tup [.int f.num, .int f.sort])
def FactsAt (H : Hp) (vs : List V) (fs : List Ag11.Fact) : Prop := Paired (FactAt H) vs fs
theorem FactAt.keep {T : Tg → Prop} {g g' : Gh} {H H' : Hp} {v : V} {f : Ag11.Fact} (m : Mv T g H g' H') (h : FactAt H v f) : FactAt H' v f := by
  obtain ⟨t, e, h⟩ := h
  exact ⟨t, e, m.tup h⟩
theorem FactsAt.keep {T : Tg → Prop} {g g' : Gh} {H H' : Hp} {vs : List V} {fs : List Ag11.Fact} (m : Mv T g H g' H') (h : FactsAt H vs fs) : FactsAt H' vs fs := paired_mono (fun _ _ => FactAt.keep m) h
/-- the addresses of a node's parts -/
structure NL where
  a : Addr
  dx : Addr
  lf : Addr
  ls : Addr
  ld : Addr
  q : V
def nI (n : Nat) : V := .int n
abbrev aFp (p : Ag11.Probe) : List (Str × V) := aF (.int p.whom) (.int p.num) (.int p.since) (.bl p.helped)
abbrev nFn (i : Nat) (n : Ag11.Node) (L : NL) : List (Str × V) := nF (.int i) (.bl n.up) (.int n.own) (.int n.count) (.int n.clock) (.ref L.lf) (.ref L.ls) L.q (.ref L.ld)
abbrev lFl (x : Ag11.Letter) (l : Addr) : List (Str × V) := lF (.int x.kind) (.int x.to_) (.int x.from_) (.int x.num) (.int x.whom) (.ref l)
def RelAt (H : Hp) (kv : Key × V) (r : Ag11.Relay) : Prop := kv.1 = Sum.inl (r.num : Int) ∧ ∃ t, kv.2 = .ref t ∧ H t = some (.tup [.int r.for_, .int r.theirs])
def BlameAt (H : Hp) (v : V) (b : Ag11.Blame) : Prop := ∃ t, v = .ref t ∧ H t = some (.tup [.int b.who, .int b.whom, .int b.num])
section
variable {K : PySem.W.Frag} {mg : Str → Option Value}
def AskAt (G : Pg K mg) (g : Gh) (H : Hp) (i : Nat) (q : V) : Option Ag11.Probe → Prop
  | none => q = .non
  | some p => ∃ a dx, q = .ref a ∧ At g H a (.ask i) (.ins G.CAsking dx (aFp p))
structure NodeAt (G : Pg K mg) (g : Gh) (H : Hp) (L : NL) (i : Nat) (n : Ag11.Node) : Prop where
  obj : At g H L.a (.node i) (.ins G.CNode L.dx (nFn i n L))
  fct : ∃ vs, At g H L.lf (.facts i) (.lst vs) ∧ FactsAt H vs n.facts
  snc : At g H L.ls (.since i) (.lst (n.since.map nI))
  ask : AskAt G g H i L.q n.probe
  dct : ∃ kvs, At g H L.ld (.dict i) (.dK kvs) ∧ Paired (RelAt H) kvs n.relays
def LetterAt (G : Pg K mg) (g : Gh) (H : Hp) (v : V) (x : Ag11.Letter) : Prop := ∃ p dx l vs, v = .ref p ∧ At g H p .imm (.ins G.CLetter dx (lFl x l)) ∧ At g H l .imm (.lst vs) ∧ FactsAt H vs x.facts
/-- the addresses of a world's parts -/
structure WL where
  w : Addr
  dx : Addr
  ln : Addr
  lr : Addr
  lb : Addr
  Ls : List NL
abbrev wFw (s : Ag11.State) (W : WL) : List (Str × V) := wF (.int s.wait) (.int s.patience) (.ref W.ln) (.ref W.lr) (.ref W.lb)
structure WorldAt (G : Pg K mg) (H0 : Hp) (g : Gh) (H : Hp) (W : WL) (s : Ag11.State) : Prop where
  out : ∀ b o, H0 b = some o → At g H b .out o
  obj : At g H W.w .world (.ins G.CWorld W.dx (wFw s W))
  nds : At g H W.ln .nodes (.lst (W.Ls.map fun L => V.ref L.a))
  len : W.Ls.length = s.nodes.length
  nod : ∀ (i : Nat) (L : NL) (n : Ag11.Node), W.Ls[i]? = some L → s.nodes[i]? = some n → NodeAt G g H L i n
  row : ∃ rs, At g H W.lr .row (.lst rs) ∧ Paired (LetterAt G g H) rs s.letters
  blm : ∃ bs, At g H W.lb .blamed (.lst bs) ∧ Paired (BlameAt H) bs s.blames

variable {G : Pg K mg} {T : Tg → Prop} {g g' : Gh} {H H' H0 : Hp}
theorem AskAt.keep {i : Nat} {q : V} {p : Option Ag11.Probe} (m : Mv T g H g' H') (n : ∀ t, grp i t → ¬ T t) (h : AskAt G g H i q p) : AskAt G g' H' i q p := by
  cases p with
  | none => exact h
  | some p =>
    obtain ⟨a, dx, e, h⟩ := h
    exact ⟨a, dx, e, h.keep m (n _ rfl)⟩
theorem RelAt.keep {kv : Key × V} {r : Ag11.Relay} (m : Mv T g H g' H') (h : RelAt H kv r) : RelAt H' kv r := by
  obtain ⟨e, t, e2, h⟩ := h
  exact ⟨e, t, e2, m.tup h⟩
theorem BlameAt.keep {v : V} {b : Ag11.Blame} (m : Mv T g H g' H') (h : BlameAt H v b) : BlameAt H' v b := by
  obtain ⟨t, e2, h⟩ := h
  exact ⟨t, e2, m.tup h⟩
theorem NodeAt.keep {L : NL} {i : Nat} {n : Ag11.Node} (m : Mv T g H g' H') (d : ∀ t, grp i t → ¬ T t) (h : NodeAt G g H L i n) : NodeAt G g' H' L i n := by
  obtain ⟨h1, ⟨vs, h2, h3⟩, h4, h5, ⟨kvs, h6, h7⟩⟩ := h
  exact ⟨h1.keep m (d _ rfl), ⟨vs, h2.keep m (d _ rfl), h3.keep m⟩, h4.keep m (d _ rfl), h5.keep m d, ⟨kvs, h6.keep m (d _ rfl), paired_mono (fun _ _ => RelAt.keep m) h7⟩⟩
theorem LetterAt.keep {v : V} {x : Ag11.Letter} (m : Mv T g H g' H') (n : ¬ T .imm) (h : LetterAt G g H v x) : LetterAt G g' H' v x := by
  obtain ⟨p, dx, l, vs, e, h1, h2, h3⟩ := h
  exact ⟨p, dx, l, vs, e, h1.keep m n, h2.keep m n, h3.keep m⟩
theorem grp_ne {i j : Nat} (d : i ≠ j) : ∀ t, grp i t → ¬ grp j t := by
  intro t h h'
  cases t <;> simp only [grp] at h h' <;> exact d (h.symm.trans h')
theorem setNode_get {s : Ag11.State} {i j : Nat} {n : Ag11.Node} : (Ag11.setNode s i n).nodes[j]? = if i = j then (if i < s.nodes.length then some n else none) else s.nodes[j]? := by
  show (s.nodes.set i n)[j]? = _
  rw [List.getElem?_set]
/-- a world whose node i has changed, and nothing else -/
theorem WorldAt.node {W : WL} {s : Ag11.State} {i : Nat} {L L' : NL} {n' : Ag11.Node} (h : WorldAt G H0 g H W s) (m : Mv (grp i) g H g' H') (hL : W.Ls[i]? = some L) (ea : L'.a = L.a) (hn : NodeAt G g' H' L' i n') :
    WorldAt G H0 g' H' { W with Ls := W.Ls.set i L' } (Ag11.setNode s i n') := by
  obtain ⟨h1, h2, h3, h4, h5, ⟨rs, h6, h7⟩, ⟨bs, h8, h9⟩⟩ := h
  have hi : i < W.Ls.length := (List.getElem?_eq_some_iff.mp hL).1
  refine ⟨fun b o e => (h1 b o e).keep m (fun z => z), h2.keep m (fun z => z), ?_, ?_, ?_, ⟨rs, h6.keep m (fun z => z), paired_mono (fun _ _ => LetterAt.keep m (fun z => z)) h7⟩, ⟨bs, h8.keep m (fun z => z), paired_mono (fun _ _ => BlameAt.keep m) h9⟩⟩
  · have e : (W.Ls.set i L').map (fun L => V.ref L.a) = W.Ls.map fun L => V.ref L.a := by
      apply List.ext_getElem?
      intro j
      rw [List.getElem?_map, List.getElem?_map, List.getElem?_set]
      by_cases c : i = j
      · subst c
        rw [if_pos rfl, if_pos hi, hL]
        simp [ea]
      · rw [if_neg c]
    show At g' H' W.ln .nodes (.lst ((W.Ls.set i L').map fun L => V.ref L.a))
    rw [e]
    exact h3.keep m (fun z => z)
  · show (W.Ls.set i L').length = (s.nodes.set i n').length
    rw [List.length_set, List.length_set]
    exact h4
  · intro j M n hM hn2
    have hM : (W.Ls.set i L')[j]? = some M := hM
    rw [List.getElem?_set] at hM
    rw [setNode_get] at hn2
    by_cases c : i = j
    · subst c
      rw [if_pos rfl, if_pos hi] at hM
      rw [if_pos rfl, if_pos (by rw [← h4]; exact hi)] at hn2
      cases hM
      cases hn2
      exact hn
    · rw [if_neg c] at hM hn2
      exact (h5 j M n hM hn2).keep m (grp_ne fun z => c z.symm)
theorem set_self {α : Type} {l : List α} {i : Nat} {x : α} (h : l[i]? = some x) : l.set i x = l := by
  apply List.ext_getElem?
  intro j
  rw [List.getElem?_set]
  by_cases c : i = j
  · subst c
    rw [if_pos rfl, if_pos (List.getElem?_eq_some_iff.mp h).1, h]
  · rw [if_neg c]
/-- the same with the node's parts where they were -/
theorem WorldAt.node0 {W : WL} {s : Ag11.State} {i : Nat} {L : NL} {n' : Ag11.Node} (h : WorldAt G H0 g H W s) (m : Mv (grp i) g H g' H') (hL : W.Ls[i]? = some L) (hn : NodeAt G g' H' L i n') :
    WorldAt G H0 g' H' W (Ag11.setNode s i n') := by
  have q := h.node m hL rfl hn
  rw [set_self hL] at q
  exact q
theorem WorldAt.at {W : WL} {s : Ag11.State} {i : Nat} {n : Ag11.Node} (h : WorldAt G H0 g H W s) (hn : s.nodes[i]? = some n) : ∃ L, W.Ls[i]? = some L ∧ NodeAt G g H L i n := by
  have hi : i < s.nodes.length := (List.getElem?_eq_some_iff.mp hn).1
  rw [← h.len] at hi
  exact ⟨W.Ls[i], List.getElem?_eq_getElem hi, h.nod i _ n (List.getElem?_eq_getElem hi) hn⟩
end

end Wt
namespace Wt
open PySem PySem.Spec PyProof.Rows L2
section
variable {P : Program} {w : World} {K : PySem.W.Frag} {mg : Str → Option Value} {base : Heap}
/-! ### counts_for_more -/
def sp_counts_for_more (_ : Pg K mg) : Sp := fun vs H Q _ => ∃ (v u : V) (x y : Ag11.Fact), vs = [v, u] ∧ FactAt H v x ∧ FactAt H u y ∧ Q (.bl (Ag11.more x y)) H
theorem len_counts_for_more {G : Pg K mg} {vs : List V} {H : Hp} {Q : VK} {E : XK} (h : sp_counts_for_more G vs H Q E) : vs.length = (["fact", "other"] : List Str).length := by
  obtain ⟨v, u, x, y, rfl, _⟩ := h
  rfl
theorem more_ne {x y : Ag11.Fact} (c : ¬ x.num = y.num) : Ag11.more x y = decide ((y.num : Int) < x.num) := by
  have e : (x.num == y.num) = false := beq_eq_false_iff_ne.mpr c
  unfold Ag11.more
  rw [e, Bool.false_and, Bool.or_false]
  exact decide_eq_decide.mpr (by omega)
theorem more_eq {x y : Ag11.Fact} (c : x.num = y.num) : Ag11.more x y = decide ((y.sort : Int) < x.sort) := by
  have e : (x.num == y.num) = true := beq_iff_eq.mpr c
  unfold Ag11.more
  rw [e, Bool.true_and, decide_eq_false (by omega), Bool.false_or]
  exact decide_eq_decide.mpr (by omega)
theorem vint_ne {i j : Nat} : (!decide (V.int (i : Int) = V.int (j : Int))) = true ↔ ¬ i = j := by
  rw [Bool.not_eq_true', decide_eq_false_iff_not]
  refine not_congr ⟨fun h => ?_, fun h => by rw [h]⟩
  injection h with h
  omega
theorem vint_eq {i j : Nat} : decide (V.int (i : Int) = V.int (j : Int)) = true ↔ i = j := by
  rw [decide_eq_true_eq]
  refine ⟨fun h => ?_, fun h => by rw [h]⟩
  injection h with h
  omega
theorem rd_counts_for_more (G : Pg K mg) {vs : List V} {H : Hp} {Q : VK} {E : XK} (h : sp_counts_for_more G vs H Q E) : (t_counts_for_more G) { nx := fun _ H' => Q .non H', rt := Q } (start ["fact", "other"] vs) H := by
  obtain ⟨v, u, x, y, rfl, ⟨a, rfl, ha⟩, ⟨b, rfl, hb⟩, k⟩ := h
  refine ⟨_, rfl, a, _, _, _, rfl, rfl, SqT.of ha, rfl, _, rfl, b, _, _, _, rfl, rfl, SqT.of hb, rfl, rfl, _, rfl, ?_⟩
  refine ite2 (fun c => ?_) (fun c => ?_)
  · refine ⟨_, rfl, a, _, _, _, rfl, rfl, SqT.of ha, rfl, _, rfl, b, _, _, _, rfl, rfl, SqT.of hb, rfl, _, _, rfl, rfl, ?_⟩
    show Q (.bl (decide ((y.num : Int) < x.num))) H
    rw [← more_ne (vint_ne.mp c)]
    exact k
  · refine ⟨_, rfl, a, _, _, _, rfl, rfl, SqT.of ha, rfl, _, rfl, b, _, _, _, rfl, rfl, SqT.of hb, rfl, _, _, rfl, rfl, ?_⟩
    show Q (.bl (decide ((y.sort : Int) < x.sort))) H
    rw [← more_eq (Decidable.not_not.mp fun z => c (vint_ne.mpr z))]
    exact k
theorem ok_counts_for_more (G : Pg K mg) : FnOk P w K mg base CX0 1 G.f_counts_for_more G.fd_counts_for_more ["fact", "other"] (sp_counts_for_more G) := by
  refine G.F_counts_for_more.ok sc_counts_for_more (fun vs H Q E h => len_counts_for_more h) (fun cdv A outer s H vs Q E hr h => ⟨t_counts_for_more G, bd_counts_for_more G hr, rd_counts_for_more G h⟩)

/-! ### Letter, Asking -/
theorem upd_swap {H : Hp} {p l : Addr} {a b c : HO} (n : p ≠ l) : upd (upd (upd H p a) l b) p c = upd (upd H l b) p c := by
  funext x
  unfold upd
  by_cases e : x = p
  · rw [if_pos e, if_pos e]
  · rw [if_neg e, if_neg e, if_neg e]
def sp_Letter_init (G : Pg K mg) : Sp := fun vs H Q _ => ∃ (p dx : Addr) (v1 v2 v3 v4 v5 : V) (l : Addr) (ws : List V), vs = [.ref p, v1, v2, v3, v4, v5, .ref l] ∧ H p = some (.ins G.CLetter dx []) ∧ H l = some (.lst ws) ∧ p ≠ l ∧
  ∀ l' : Addr, H l' = none → Q .non (upd (upd H l' (.lst ws)) p (.ins G.CLetter dx (lF v1 v2 v3 v4 v5 (.ref l'))))
theorem len_Letter_init {G : Pg K mg} {vs : List V} {H : Hp} {Q : VK} {E : XK} (h : sp_Letter_init G vs H Q E) : vs.length = (["self", "kind", "to", "sender", "number", "whom", "facts"] : List Str).length := by
  obtain ⟨p, dx, v1, v2, v3, v4, v5, l, ws, rfl, _⟩ := h
  rfl
theorem lt_init {fs : List (Str × V)} {n : Nat} (h : fs.length ≤ n) (hn : n < 1000) : fs.length < 1000 := Nat.lt_of_le_of_lt h hn
theorem rd_Letter_init (G : Pg K mg) {vs : List V} {H : Hp} {Q : VK} {E : XK} (h : sp_Letter_init G vs H Q E) : (t_Letter_init G) { nx := fun _ H' => Q .non H', rt := Q } (start ["self", "kind", "to", "sender", "number", "whom", "facts"] vs) H := by
  obtain ⟨p, dx, v1, v2, v3, v4, v5, l, ws, rfl, hp, hl, npl, k⟩ := h
  refine ⟨_, rfl, _, rfl, p, _, dx, _, rfl, hp, G.cl_Letter, G.n_Letter_kind, (by decide), ?_⟩
  refine ⟨_, rfl, _, rfl, p, _, dx, _, rfl, upd_same, G.cl_Letter, G.n_Letter_to, lt_init (pl1 (Nat.le_refl 0)) (by decide), ?_⟩
  refine ⟨_, rfl, _, rfl, p, _, dx, _, rfl, upd_same, G.cl_Letter, G.n_Letter_sender, lt_init (pl1 (pl1 (Nat.le_refl 0))) (by decide), ?_⟩
  refine ⟨_, rfl, _, rfl, p, _, dx, _, rfl, upd_same, G.cl_Letter, G.n_Letter_number, lt_init (pl1 (pl1 (pl1 (Nat.le_refl 0)))) (by decide), ?_⟩
  refine ⟨_, rfl, _, rfl, p, _, dx, _, rfl, upd_same, G.cl_Letter, G.n_Letter_whom, lt_init (pl1 (pl1 (pl1 (pl1 (Nat.le_refl 0))))) (by decide), ?_⟩
  rw [upd_upd, upd_upd, upd_upd, upd_upd]
  refine ⟨_, rfl, l, ws, rfl, .inl (SqL.of (by rw [upd_ne npl.symm]; exact hl)), fun l' hl' => ?_⟩
  have n2 : p ≠ l' := fun e => by
    rw [← e, upd_same] at hl'
    cases hl'
  have hl2 : H l' = none := by
    rw [upd_ne n2.symm] at hl'
    exact hl'
  refine ⟨_, rfl, p, _, dx, _, rfl, (by rw [upd_ne n2]; exact upd_same), G.cl_Letter, G.n_Letter_facts, lt_init (pl1 (pl1 (pl1 (pl1 (pl1 (Nat.le_refl 0)))))) (by decide), ?_⟩
  rw [upd_swap n2, lF_init]
  exact k l' hl2
theorem ok_Letter_init (G : Pg K mg) : FnOk P w K mg base CX0 1 G.f_Letter_init G.fd_Letter_init ["self", "kind", "to", "sender", "number", "whom", "facts"] (sp_Letter_init G) := by
  refine G.F_Letter_init.ok sc_Letter_init (fun vs H Q E h => len_Letter_init h) (fun cdv A outer s H vs Q E hr h => ⟨t_Letter_init G, bd_Letter_init G hr, rd_Letter_init G h⟩)
def sp_Asking_init (G : Pg K mg) : Sp := fun vs H Q _ => ∃ (p dx : Addr) (v1 v2 v3 : V), vs = [.ref p, v1, v2, v3] ∧ H p = some (.ins G.CAsking dx []) ∧ Q .non (upd H p (.ins G.CAsking dx (aF v1 v2 v3 (.bl false))))
theorem len_Asking_init {G : Pg K mg} {vs : List V} {H : Hp} {Q : VK} {E : XK} (h : sp_Asking_init G vs H Q E) : vs.length = (["self", "whom", "number", "since"] : List Str).length := by
  obtain ⟨p, dx, v1, v2, v3, rfl, _⟩ := h
  rfl
theorem rd_Asking_init (G : Pg K mg) {vs : List V} {H : Hp} {Q : VK} {E : XK} (h : sp_Asking_init G vs H Q E) : (t_Asking_init G) { nx := fun _ H' => Q .non H', rt := Q } (start ["self", "whom", "number", "since"] vs) H := by
  obtain ⟨p, dx, v1, v2, v3, rfl, hp, k⟩ := h
  refine ⟨_, rfl, _, rfl, p, _, dx, _, rfl, hp, G.cl_Asking, G.n_Asking_whom, (by decide), ?_⟩
  refine ⟨_, rfl, _, rfl, p, _, dx, _, rfl, upd_same, G.cl_Asking, G.n_Asking_number, lt_init (pl1 (Nat.le_refl 0)) (by decide), ?_⟩
  refine ⟨_, rfl, _, rfl, p, _, dx, _, rfl, upd_same, G.cl_Asking, G.n_Asking_since, lt_init (pl1 (pl1 (Nat.le_refl 0))) (by decide), ?_⟩
  refine ⟨_, rfl, p, _, dx, _, rfl, upd_same, G.cl_Asking, G.n_Asking_helped, lt_init (pl1 (pl1 (pl1 (Nat.le_refl 0)))) (by decide), ?_⟩
  rw [upd_upd, upd_upd, upd_upd, aF_init]
  exact k
theorem ok_Asking_init (G : Pg K mg) : FnOk P w K mg base CX0 1 G.f_Asking_init G.fd_Asking_init ["self", "whom", "number", "since"] (sp_Asking_init G) := by
  refine G.F_Asking_init.ok sc_Asking_init (fun vs H Q E h => len_Asking_init h) (fun cdv A outer s H vs Q E hr h => ⟨t_Asking_init G, bd_Asking_init G hr, rd_Asking_init G h⟩)

/-! ### Node: has_passed, learn -/
def sp_Node_has_passed (G : Pg K mg) : Sp := fun vs H Q _ => ∃ (g : Gh) (L : NL) (i : Nat) (n : Ag11.Node) (t m : Nat), vs = [.ref L.a, .int t, .int m] ∧ NodeAt G g H L i n ∧ Q (.bl (decide (t + m ≤ n.clock))) H
theorem len_Node_has_passed {G : Pg K mg} {vs : List V} {H : Hp} {Q : VK} {E : XK} (h : sp_Node_has_passed G vs H Q E) : vs.length = (["self", "then", "much"] : List Str).length := by
  obtain ⟨g, L, i, n, t, m, rfl, _⟩ := h
  rfl
theorem rd_Node_has_passed (G : Pg K mg) {vs : List V} {H : Hp} {Q : VK} {E : XK} (h : sp_Node_has_passed G vs H Q E) : (t_Node_has_passed G) { nx := fun _ H' => Q .non H', rt := Q } (start ["self", "then", "much"] vs) H := by
  obtain ⟨g, L, i, n, t, m, rfl, hN, k⟩ := h
  refine ⟨_, rfl, _, rfl, _, _, rfl, rfl, _, rfl, L.a, _, L.dx, _, _, rfl, hN.obj.1, G.cl_Node, G.n_Node_clock, nF_clock, _, _, rfl, rfl, ?_⟩
  show Q (.bl (decide ((t : Int) + m ≤ n.clock))) H
  rw [decide_eq_decide.mpr (show ((t : Int) + m ≤ n.clock ↔ t + m ≤ n.clock) by omega)]
  exact k
theorem ok_Node_has_passed (G : Pg K mg) : FnOk P w K mg base CX0 1 G.f_Node_has_passed G.fd_Node_has_passed ["self", "then", "much"] (sp_Node_has_passed G) := by
  refine G.F_Node_has_passed.ok sc_Node_has_passed (fun vs H Q E h => len_Node_has_passed h) (fun cdv A outer s H vs Q E hr h => ⟨t_Node_has_passed G, bd_Node_has_passed G hr, rd_Node_has_passed G h⟩)
theorem NodeAt.learn {G : Pg K mg} {g : Gh} {H : Hp} {L : NL} {i : Nat} {n : Ag11.Node} {t : Addr} {vs : List V} {k : Nat} {f : Ag11.Fact} (h : NodeAt G g H L i n) (ht : H t = none) (hv : At g H L.lf (.facts i) (.lst vs)) (hf : FactsAt H vs n.facts) :
    NodeAt G g (upd (upd (upd H t (.tup [.int f.num, .int f.sort])) L.lf (.lst (vs.set k (.ref t)))) L.ls (.lst ((n.since.map nI).set k (.int n.clock)))) L i (Ag11.learn n k f) ∧
    Mv (grp i) g H g (upd (upd (upd H t (.tup [.int f.num, .int f.sort])) L.lf (.lst (vs.set k (.ref t)))) L.ls (.lst ((n.since.map nI).set k (.int n.clock)))) := by
  have m1 : Mv (fun t => t = .facts i ∨ t = .since i) g H g (upd H t (.tup [.int f.num, .int f.sort])) := Mv.new0 ht
  have hv1 : At g (upd H t (.tup [.int f.num, .int f.sort])) L.lf (.facts i) (.lst vs) := hv.fresh ht
  have m2 : Mv (fun t => t = .facts i ∨ t = .since i) g (upd H t (.tup [.int f.num, .int f.sort])) g (upd (upd H t (.tup [.int f.num, .int f.sort])) L.lf (.lst (vs.set k (.ref t)))) := Mv.put hv1 (.inl rfl) (fun z => z)
  have hs1 : At g (upd (upd H t (.tup [.int f.num, .int f.sort])) L.lf (.lst (vs.set k (.ref t)))) L.ls (.since i) (.lst (n.since.map nI)) := (h.snc.fresh ht).past hv1 (by intro z; cases z)
  have m3 : Mv (fun t => t = .facts i ∨ t = .since i) g (upd (upd H t (.tup [.int f.num, .int f.sort])) L.lf (.lst (vs.set k (.ref t)))) g (upd (upd (upd H t (.tup [.int f.num, .int f.sort])) L.lf (.lst (vs.set k (.ref t)))) L.ls (.lst ((n.since.map nI).set k (.int n.clock)))) := Mv.put hs1 (.inr rfl) (fun z => z)
  have m := (m1.trans m2).trans m3
  have ft : FactAt (upd (upd (upd H t (.tup [.int f.num, .int f.sort])) L.lf (.lst (vs.set k (.ref t)))) L.ls (.lst ((n.since.map nI).set k (.int n.clock)))) (.ref t) f :=
    ⟨t, rfl, (m2.trans m3).tup upd_same⟩
  refine ⟨⟨h.obj.keep m (by rintro (z | z) <;> cases z), ⟨_, (At.put hv1).past hs1 (by intro z; cases z), paired_set ft k (hf.keep m)⟩, ?_, ?_, ?_⟩, m.mono ?_⟩
  · have e : ((Ag11.learn n k f).since.map nI) = (n.since.map nI).set k (.int n.clock) := by
      show (n.since.set k n.clock).map nI = _
      rw [List.map_set]
      rfl
    rw [e]
    exact At.put hs1
  · have d : ∀ p, AskAt G g H i L.q p → AskAt G g (upd (upd (upd H t (.tup [.int f.num, .int f.sort])) L.lf (.lst (vs.set k (.ref t)))) L.ls (.lst ((n.since.map nI).set k (.int n.clock)))) i L.q p := by
      intro p hp
      cases p with
      | none => exact hp
      | some p =>
        obtain ⟨a, dx, e, hp⟩ := hp
        exact ⟨a, dx, e, hp.keep m (by rintro (z | z) <;> cases z)⟩
    exact d _ h.ask
  · obtain ⟨kvs, h1, h2⟩ := h.dct
    exact ⟨kvs, h1.keep m (by rintro (z | z) <;> cases z), paired_mono (fun _ _ => RelAt.keep m) h2⟩
  · rintro t (z | z) <;> rw [z] <;> rfl
def sp_Node_learn (G : Pg K mg) : Sp := fun vs H Q _ => ∃ (g : Gh) (L : NL) (i : Nat) (n : Ag11.Node) (k : Nat) (f : Ag11.Fact), vs = [.ref L.a, .int k, .int f.num, .int f.sort] ∧ NodeAt G g H L i n ∧ k < n.facts.length ∧ k < n.since.length ∧
  ∀ H' : Hp, NodeAt G g H' L i (Ag11.learn n k f) → Mv (grp i) g H g H' → Q .non H'
theorem len_Node_learn {G : Pg K mg} {vs : List V} {H : Hp} {Q : VK} {E : XK} (h : sp_Node_learn G vs H Q E) : vs.length = (["self", "whom", "number", "how"] : List Str).length := by
  obtain ⟨g, L, i, n, k, f, rfl, _⟩ := h
  rfl
theorem rd_Node_learn (G : Pg K mg) {vs : List V} {H : Hp} {Q : VK} {E : XK} (h : sp_Node_learn G vs H Q E) : (t_Node_learn G) { nx := fun _ H' => Q .non H', rt := Q } (start ["self", "whom", "number", "how"] vs) H := by
  obtain ⟨g, L, i, n, k, f, rfl, hN, k1, k2, q⟩ := h
  obtain ⟨vs, hv, hf⟩ := hN.fct
  have kl : k < vs.length := by rw [paired_len hf]; exact k1
  refine ⟨_, rfl, _, rfl, (by show 2 ≤ sizeLine; decide), fun t ht => ?_⟩
  have ho := hN.obj.fresh (o2 := .tup [.int f.num, .int f.sort]) ht
  have hv1 := hv.fresh (o2 := .tup [.int f.num, .int f.sort]) ht
  refine ⟨_, rfl, L.a, _, L.dx, _, _, rfl, ho.1, G.cl_Node, G.n_Node_facts, nF_facts, _, rfl, L.lf, vs, _, k, rfl, rfl, hv1.1, Evl.ixN_nat kl, ?_⟩
  have ho2 := ho.past (o2 := .lst (vs.set k (.ref t))) hv1 (by intro z; cases z)
  have hs2 := (hN.snc.fresh (o2 := .tup [.int f.num, .int f.sort]) ht).past (o2 := .lst (vs.set k (.ref t))) hv1 (by intro z; cases z)
  refine ⟨_, rfl, L.a, _, L.dx, _, _, rfl, ho2.1, G.cl_Node, G.n_Node_clock, nF_clock, _, rfl, L.a, _, L.dx, _, _, rfl, ho2.1, G.cl_Node, G.n_Node_since, nF_since, _, rfl, L.ls, _, _, k, rfl, rfl, hs2.1, Evl.ixN_nat (by rw [List.length_map]; exact k2), ?_⟩
  obtain ⟨r1, r2⟩ := hN.learn (k := k) (f := f) ht hv hf
  exact q _ r1 r2
theorem ok_Node_learn (G : Pg K mg) : FnOk P w K mg base CX0 1 G.f_Node_learn G.fd_Node_learn ["self", "whom", "number", "how"] (sp_Node_learn G) := by
  refine G.F_Node_learn.ok sc_Node_learn (fun vs H Q E h => len_Node_learn h) (fun cdv A outer s H vs Q E hr h => ⟨t_Node_learn G, bd_Node_learn G hr, rd_Node_learn G h⟩)
end

end Wt
namespace Wt
open PySem PySem.Spec PyProof.Rows L2
section
variable {P : Program} {w : World} {K : PySem.W.Frag} {mg : Str → Option Value} {base : Heap}
/-! ### a node's own attributes -/
theorem NodeAt.objq {G : Pg K mg} {g : Gh} {H : Hp} {L : NL} {i : Nat} {n : Ag11.Node} (h : NodeAt G g H L i n) (n' : Ag11.Node) (q : V) (hf : n'.facts = n.facts) (hs : n'.since = n.since) (hr : n'.relays = n.relays) (hq : AskAt G g H i q n'.probe) :
    NodeAt G g (upd H L.a (.ins G.CNode L.dx (nFn i n' { L with q := q }))) { L with q := q } i n' ∧ Mv (grp i) g H g (upd H L.a (.ins G.CNode L.dx (nFn i n' { L with q := q }))) := by
  have m : Mv (fun t => t = .node i) g H g (upd H L.a (.ins G.CNode L.dx (nFn i n' { L with q := q }))) := Mv.put h.obj rfl (fun z => z)
  refine ⟨⟨At.put h.obj, ?_, ?_, ?_, ?_⟩, m.mono ?_⟩
  · obtain ⟨vs, h1, h2⟩ := h.fct
    refine ⟨vs, h1.keep m (by intro z; cases z), ?_⟩
    rw [hf]
    exact h2.keep m
  · rw [hs]
    exact h.snc.keep m (by intro z; cases z)
  · have d : ∀ p, AskAt G g H i q p → AskAt G g (upd H L.a (.ins G.CNode L.dx (nFn i n' { L with q := q }))) i q p := by
      intro p hp
      cases p with
      | none => exact hp
      | some p =>
        obtain ⟨a, dx, e, hp⟩ := hp
        exact ⟨a, dx, e, hp.keep m (by intro z; cases z)⟩
    exact d _ hq
  · obtain ⟨kvs, h1, h2⟩ := h.dct
    refine ⟨kvs, h1.keep m (by intro z; cases z), ?_⟩
    rw [hr]
    exact paired_mono (fun _ _ => RelAt.keep m) h2
  · intro t z
    rw [z]
    rfl
theorem NodeAt.scal {G : Pg K mg} {g : Gh} {H : Hp} {L : NL} {i : Nat} {n : Ag11.Node} (h : NodeAt G g H L i n) (n' : Ag11.Node) (hf : n'.facts = n.facts) (hs : n'.since = n.since) (hr : n'.relays = n.relays) (hp : n'.probe = n.probe) :
    NodeAt G g (upd H L.a (.ins G.CNode L.dx (nFn i n' L))) L i n' ∧ Mv (grp i) g H g (upd H L.a (.ins G.CNode L.dx (nFn i n' L))) :=
  h.objq n' L.q hf hs hr (by rw [hp]; exact h.ask)
/-! ### hear_of_itself -/
def hearSelf (n : Ag11.Node) (i : Nat) (x : Ag11.Fact) : Ag11.Node := if x.sort ≠ 0 ∧ n.own ≤ x.num then { Ag11.learn n i ⟨x.num + 1, 0⟩ with own := x.num + 1 } else n
def sp_Node_hear_of_itself (G : Pg K mg) : Sp := fun vs H Q _ => ∃ (g : Gh) (L : NL) (i : Nat) (n : Ag11.Node) (v : V) (x : Ag11.Fact), vs = [.ref L.a, v] ∧ NodeAt G g H L i n ∧ FactAt H v x ∧ i < n.facts.length ∧ i < n.since.length ∧
  ∀ H' : Hp, NodeAt G g H' L i (hearSelf n i x) → Mv (grp i) g H g H' → Q .non H'
theorem len_Node_hear_of_itself {G : Pg K mg} {vs : List V} {H : Hp} {Q : VK} {E : XK} (h : sp_Node_hear_of_itself G vs H Q E) : vs.length = (["self", "fact"] : List Str).length := by
  obtain ⟨g, L, i, n, v, x, rfl, _⟩ := h
  rfl
theorem rd_Node_hear_of_itself (G : Pg K mg) {vs : List V} {H : Hp} {Q : VK} {E : XK} (h : sp_Node_hear_of_itself G vs H Q E) : (t_Node_hear_of_itself G (sp_Node_learn G)) { nx := fun _ H' => Q .non H', rt := Q } (start ["self", "fact"] vs) H := by
  obtain ⟨g, L, i, n, v, x, rfl, hN, ⟨a, rfl, ha⟩, k1, k2, q⟩ := h
  refine ⟨_, rfl, a, _, _, _, rfl, rfl, SqT.of ha, rfl, rfl, _, rfl, ?_⟩
  refine ite2 (fun c => ?_) (fun c => ?_)
  · have c1 : ¬ x.sort = 0 := (vint_ne (j := 0)).mp c
    refine ⟨_, rfl, a, _, _, _, rfl, rfl, SqT.of ha, rfl, _, rfl, L.a, _, L.dx, _, _, rfl, hN.obj.1, G.cl_Node, G.n_Node_own, nF_own, _, _, rfl, rfl, _, rfl, ?_⟩
    refine ite2 (fun d => ?_) (fun d => ?_)
    · have d1 : (n.own : Int) ≤ x.num := of_decide_eq_true d
      have e : hearSelf n i x = Ag11.learn { n with own := x.num + 1 } i ⟨x.num + 1, 0⟩ := if_pos ⟨c1, by omega⟩
      refine ⟨_, rfl, a, _, _, _, rfl, rfl, SqT.of ha, rfl, _, _, rfl, rfl, _, rfl, L.a, _, L.dx, _, rfl, hN.obj.1, G.cl_Node, G.n_Node_own, (by show 9 < 1000; decide), ?_⟩
      rw [nF_put_own]
      obtain ⟨r1, r2⟩ := hN.scal { n with own := x.num + 1 } rfl rfl rfl rfl
      refine ⟨_, rfl, L.a, L.dx, _, rfl, r1.obj.1, nF_no_learn, _, rfl, L.a, _, L.dx, _, _, rfl, r1.obj.1, G.cl_Node, G.n_Node_me, nF_me, _, rfl, L.a, _, L.dx, _, _, rfl, r1.obj.1, G.cl_Node, G.n_Node_own, nF_own, ?_⟩
      refine ⟨g, L, i, { n with own := x.num + 1 }, i, ⟨x.num + 1, 0⟩, rfl, r1, k1, k2, fun H' h1 h2 => ?_⟩
      refine q H' ?_ (r2.trans h2)
      rw [e]
      exact h1
    · have d1 : ¬ (n.own : Int) ≤ x.num := of_decide_eq_false (Bool.not_eq_true _ ▸ d)
      have e : hearSelf n i x = n := if_neg fun z => d1 (by have := z.2; omega)
      refine q H ?_ Mv.refl
      rw [e]
      exact hN
  · have c1 : x.sort = 0 := Decidable.not_not.mp fun z => c ((vint_ne (j := 0)).mpr z)
    have e : hearSelf n i x = n := if_neg fun z => z.1 c1
    refine iteF ?_
    refine q H ?_ Mv.refl
    rw [e]
    exact hN
theorem ok_Node_hear_of_itself (G : Pg K mg) : FnOk P w K mg base CX0 2 G.f_Node_hear_of_itself G.fd_Node_hear_of_itself ["self", "fact"] (sp_Node_hear_of_itself G) := by
  refine G.F_Node_hear_of_itself.ok sc_Node_hear_of_itself (fun vs H Q E h => len_Node_hear_of_itself h) (fun cdv A outer s H vs Q E hr h => ⟨t_Node_hear_of_itself G (sp_Node_learn G), bd_Node_hear_of_itself G (ok_Node_learn G) hr, rd_Node_hear_of_itself G h⟩)
/-! ### hear -/
def hearStep (i : Nat) (n : Ag11.Node) (x : Ag11.Fact × Nat) : Ag11.Node := if x.2 = i then hearSelf n i x.1 else if Ag11.more x.1 (Ag11.fact n x.2) = true then Ag11.learn n x.2 x.1 else n
theorem hear_is (n : Ag11.Node) (i : Nat) (l : List Ag11.Fact) : Ag11.hear n i l = l.zipIdx.foldl (hearStep i) n := rfl
def hearK (n : Ag11.Node) (i : Nat) (l : List Ag11.Fact) (k : Nat) : Ag11.Node := (l.zipIdx.take k).foldl (hearStep i) n
theorem take_more {α : Type} : ∀ {l : List α} {i : Nat} {x : α}, l[i]? = some x → l.take (i + 1) = l.take i ++ [x]
  | [], i, x, h => by simp at h
  | a :: l, 0, x, h => by
    have e : a = x := Option.some.inj h
    subst e
    rfl
  | a :: l, i + 1, x, h => by
    have ih := take_more (l := l) (i := i) (x := x) h
    show a :: l.take (i + 1) = a :: l.take i ++ [x]
    rw [ih]
    rfl
theorem hearK_more {n : Ag11.Node} {i : Nat} {l : List Ag11.Fact} {k : Nat} {x : Ag11.Fact} (h : l[k]? = some x) : hearK n i l (k + 1) = hearStep i (hearK n i l k) (x, k) := by
  have e : l.zipIdx[k]? = some (x, k) := by
    rw [List.getElem?_zipIdx, h]
    simp
  unfold hearK
  rw [take_more e, List.foldl_append]
  rfl
theorem hearK_all {n : Ag11.Node} {i : Nat} {l : List Ag11.Fact} : hearK n i l l.length = Ag11.hear n i l := by
  unfold hearK
  rw [hear_is, List.take_of_length_le (by simp)]
theorem learn_len {n : Ag11.Node} {k : Nat} {f : Ag11.Fact} : (Ag11.learn n k f).facts.length = n.facts.length ∧ (Ag11.learn n k f).since.length = n.since.length := ⟨List.length_set, List.length_set⟩
theorem hearSelf_len {n : Ag11.Node} {i : Nat} {x : Ag11.Fact} : (hearSelf n i x).facts.length = n.facts.length ∧ (hearSelf n i x).since.length = n.since.length := by
  unfold hearSelf
  split
  · exact learn_len (n := n) (k := i) (f := ⟨x.num + 1, 0⟩)
  · exact ⟨rfl, rfl⟩
theorem hearStep_len {n : Ag11.Node} {i : Nat} {x : Ag11.Fact × Nat} : (hearStep i n x).facts.length = n.facts.length ∧ (hearStep i n x).since.length = n.since.length := by
  unfold hearStep
  split
  · exact hearSelf_len
  · split
    · exact learn_len
    · exact ⟨rfl, rfl⟩
theorem fold_len {α : Type} {F : Ag11.Node → α → Ag11.Node} (hF : ∀ n x, (F n x).facts.length = n.facts.length ∧ (F n x).since.length = n.since.length) : ∀ (l : List α) (n : Ag11.Node), (l.foldl F n).facts.length = n.facts.length ∧ (l.foldl F n).since.length = n.since.length
  | [], _ => ⟨rfl, rfl⟩
  | x :: r, n => by
    obtain ⟨a, b⟩ := fold_len hF r (F n x)
    obtain ⟨c, d⟩ := hF n x
    exact ⟨a.trans c, b.trans d⟩
theorem hearK_len {n : Ag11.Node} {i : Nat} {l : List Ag11.Fact} {k : Nat} : (hearK n i l k).facts.length = n.facts.length ∧ (hearK n i l k).since.length = n.since.length := fold_len (fun _ _ => hearStep_len) _ _
theorem fact_of {n : Ag11.Node} {k : Nat} {x : Ag11.Fact} (h : n.facts[k]? = some x) : Ag11.fact n k = x := by
  unfold Ag11.fact
  rw [List.getD_eq_getElem?_getD, h]
  rfl
def sp_Node_hear (G : Pg K mg) : Sp := fun vs H Q _ => ∃ (g : Gh) (L : NL) (i : Nat) (n : Ag11.Node) (l : Addr) (us : List V) (fs : List Ag11.Fact), vs = [.ref L.a, .ref l] ∧ NodeAt G g H L i n ∧ At g H l .imm (.lst us) ∧ FactsAt H us fs ∧
  fs.length = n.facts.length ∧ n.since.length = n.facts.length ∧ i < n.facts.length ∧ n.facts.length ≤ 5 ∧
  ∀ H' : Hp, NodeAt G g H' L i (Ag11.hear n i fs) → Mv (grp i) g H g H' → Q .non H'
theorem len_Node_hear {G : Pg K mg} {vs : List V} {H : Hp} {Q : VK} {E : XK} (h : sp_Node_hear G vs H Q E) : vs.length = (["self", "facts"] : List Str).length := by
  obtain ⟨g, L, i, n, l, us, fs, rfl, _⟩ := h
  rfl
theorem rd_Node_hear (G : Pg K mg) {vs : List V} {H : Hp} {Q : VK} {E : XK} (h : sp_Node_hear G vs H Q E) : (t_Node_hear G (sp_Node_hear_of_itself G) (sp_counts_for_more G) (sp_Node_learn G)) { nx := fun _ H' => Q .non H', rt := Q } (start ["self", "facts", "whom", "fact"] vs) H := by
  obtain ⟨g, L, i, n, l, us, fs, rfl, hN, hl, hfs, e1, e2, hi, h5, q⟩ := h
  have eu : us.length = fs.length := paired_len hfs
  refine ⟨_, rfl, l, us, rfl, .inl (SqL.of hl.1), (us.length : Int), rfl, by omega, by omega, for_range (lo := 0) (n := us.length) (fun k σ H' => ∃ v1 v2, σ = [some (.ref L.a), some (.ref l), v1, v2] ∧ NodeAt G g H' L i (hearK n i fs k) ∧ Mv (grp i) g H g H') ⟨_, _, rfl, hN, Mv.refl⟩ ?_ ?_⟩
  · rintro k σ H' hk ⟨v1, v2, rfl, hN', m⟩
    rw [Int.zero_add]
    obtain ⟨x, hx⟩ : ∃ x, fs[k]? = some x := ⟨fs[k], List.getElem?_eq_getElem (by omega)⟩
    obtain ⟨u, hu, ⟨a, rfl, ha⟩⟩ := paired_at hfs hx
    have ha' := m.tup ha
    have hl' := At.keep (t := .imm) m (fun z => z) hl
    obtain ⟨l1, l2⟩ := hearK_len (n := n) (i := i) (l := fs) (k := k)
    refine ⟨_, rfl, _, rfl, l, us, _, _, rfl, rfl, SqL.of hl'.1, atI_nat hu, ?_⟩
    refine ⟨_, rfl, _, rfl, L.a, _, L.dx, _, _, rfl, hN'.obj.1, G.cl_Node, G.n_Node_me, nF_me, rfl, _, rfl, ?_⟩
    refine ite2 (fun c => ?_) (fun c => ?_)
    · have c1 : k = i := vint_eq.mp c
      refine ⟨_, rfl, L.a, L.dx, _, rfl, hN'.obj.1, nF_no_hear_of_itself, _, rfl, ?_⟩
      refine ⟨g, L, i, _, _, x, rfl, hN', ⟨a, rfl, ha'⟩, by omega, by omega, fun H2 h1 h2 => ?_⟩
      refine ⟨_, _, rfl, ?_, m.trans h2⟩
      rw [hearK_more hx]
      unfold hearStep
      rw [if_pos c1]
      exact h1
    · have c1 : ¬ k = i := fun z => c (vint_eq.mpr z)
      obtain ⟨ws, hw, hf⟩ := hN'.fct
      obtain ⟨y, hy⟩ : ∃ y, (hearK n i fs k).facts[k]? = some y := ⟨(hearK n i fs k).facts[k]'(by omega), List.getElem?_eq_getElem (by omega)⟩
      obtain ⟨u2, hu2, hu3⟩ := paired_at hf hy
      refine ⟨_, rfl, _, rfl, L.a, _, L.dx, _, _, rfl, hN'.obj.1, G.cl_Node, G.n_Node_facts, nF_facts, _, rfl, L.lf, ws, _, u2, rfl, rfl, SqL.of hw.1, atI_nat hu2, ?_⟩
      refine ⟨_, _, x, y, rfl, ⟨a, rfl, ha'⟩, hu3, ?_⟩
      refine ⟨_, rfl, ?_⟩
      refine ite2 (fun d => ?_) (fun d => ?_)
      · refine ⟨_, rfl, L.a, L.dx, _, rfl, hN'.obj.1, nF_no_learn, _, rfl, _, rfl, a, _, _, _, rfl, rfl, SqT.of ha', rfl, _, rfl, a, _, _, _, rfl, rfl, SqT.of ha', rfl, ?_⟩
        refine ⟨g, L, i, _, k, x, rfl, hN', by omega, by omega, fun H2 h1 h2 => ?_⟩
        refine ⟨_, _, rfl, ?_, m.trans h2⟩
        rw [hearK_more hx]
        unfold hearStep
        rw [if_neg c1, fact_of hy, if_pos d]
        exact h1
      · refine ⟨_, _, rfl, ?_, m⟩
        rw [hearK_more hx]
        unfold hearStep
        rw [if_neg c1, fact_of hy, if_neg d]
        exact hN'
  · rintro σ H' ⟨v1, v2, rfl, hN', m⟩
    rw [eu, hearK_all] at hN'
    exact q H' hN' m
theorem ok_Node_hear (G : Pg K mg) : FnOk P w K mg base CX0 3 G.f_Node_hear G.fd_Node_hear ["self", "facts"] (sp_Node_hear G) := by
  refine G.F_Node_hear.ok sc_Node_hear (fun vs H Q E h => len_Node_hear h) (fun cdv A outer s H vs Q E hr h => ⟨t_Node_hear G (sp_Node_hear_of_itself G) (sp_counts_for_more G) (sp_Node_learn G), bd_Node_hear G (ok_Node_hear_of_itself G) (ok_counts_for_more G) (ok_Node_learn G) hr, rd_Node_hear G h⟩)
/-! ### give_up -/
def giveStep (p : Nat) (n : Ag11.Node) (k : Nat) : Ag11.Node := if (Ag11.fact n k).sort = 1 ∧ n.since.getD k 0 + p ≤ n.clock then Ag11.learn n k ⟨(Ag11.fact n k).num, 2⟩ else n
def giveK (p : Nat) (n : Ag11.Node) (k : Nat) : Ag11.Node := (List.range k).foldl (giveStep p) n
theorem giveK_more {p : Nat} {n : Ag11.Node} {k : Nat} : giveK p n (k + 1) = giveStep p (giveK p n k) k := by
  unfold giveK
  rw [List.range_succ, List.foldl_append]
  rfl
theorem giveStep_len {p : Nat} {n : Ag11.Node} {k : Nat} : (giveStep p n k).facts.length = n.facts.length ∧ (giveStep p n k).since.length = n.since.length := by
  unfold giveStep
  split
  · exact learn_len
  · exact ⟨rfl, rfl⟩
theorem giveK_len {p : Nat} {n : Ag11.Node} {k : Nat} : (giveK p n k).facts.length = n.facts.length ∧ (giveK p n k).since.length = n.since.length := fold_len (fun _ _ => giveStep_len) _ _
def sp_Node_give_up (G : Pg K mg) : Sp := fun vs H Q _ => ∃ (g : Gh) (L : NL) (i : Nat) (n : Ag11.Node) (p : Nat), vs = [.ref L.a, .int p] ∧ NodeAt G g H L i n ∧ n.since.length = n.facts.length ∧ n.facts.length ≤ 5 ∧
  ∀ H' : Hp, NodeAt G g H' L i (giveK p n n.facts.length) → Mv (grp i) g H g H' → Q .non H'
theorem len_Node_give_up {G : Pg K mg} {vs : List V} {H : Hp} {Q : VK} {E : XK} (h : sp_Node_give_up G vs H Q E) : vs.length = (["self", "patience"] : List Str).length := by
  obtain ⟨g, L, i, n, p, rfl, _⟩ := h
  rfl
theorem rd_Node_give_up (G : Pg K mg) {vs : List V} {H : Hp} {Q : VK} {E : XK} (h : sp_Node_give_up G vs H Q E) : (t_Node_give_up G (sp_Node_has_passed G) (sp_Node_learn G)) { nx := fun _ H' => Q .non H', rt := Q } (start ["self", "patience", "whom", "fact"] vs) H := by
  obtain ⟨g, L, i, n, p, rfl, hN, e2, h5, q⟩ := h
  obtain ⟨us, hl, hfs⟩ := hN.fct
  have eu : us.length = n.facts.length := paired_len hfs
  refine ⟨_, rfl, L.a, _, L.dx, _, _, rfl, hN.obj.1, G.cl_Node, G.n_Node_facts, nF_facts, L.lf, us, rfl, .inl (SqL.of hl.1), (us.length : Int), rfl, by omega, by omega,
    for_range (lo := 0) (n := us.length) (fun k σ H' => ∃ v1 v2, σ = [some (.ref L.a), some (.int p), v1, v2] ∧ NodeAt G g H' L i (giveK p n k) ∧ Mv (grp i) g H g H') ⟨_, _, rfl, hN, Mv.refl⟩ ?_ ?_⟩
  · rintro k σ H' hk ⟨v1, v2, rfl, hN', m⟩
    rw [Int.zero_add]
    obtain ⟨l1, l2⟩ := giveK_len (p := p) (n := n) (k := k)
    obtain ⟨ws, hw, hf⟩ := hN'.fct
    obtain ⟨y, hy⟩ : ∃ y, (giveK p n k).facts[k]? = some y := ⟨(giveK p n k).facts[k]'(by omega), List.getElem?_eq_getElem (by omega)⟩
    obtain ⟨u, hu, ⟨a, rfl, ha⟩⟩ := paired_at hf hy
    obtain ⟨z, hz⟩ : ∃ z, (giveK p n k).since[k]? = some z := ⟨(giveK p n k).since[k]'(by omega), List.getElem?_eq_getElem (by omega)⟩
    have hz2 : ((giveK p n k).since.map nI)[k]? = some (.int z) := by
      rw [List.getElem?_map, hz]
      rfl
    have hz3 : (giveK p n k).since.getD k 0 = z := by
      rw [List.getD_eq_getElem?_getD, hz]
      rfl
    have st : giveK p n (k + 1) = if y.sort = 1 ∧ z + p ≤ (giveK p n k).clock then Ag11.learn (giveK p n k) k ⟨y.num, 2⟩ else giveK p n k := by
      rw [giveK_more]
      unfold giveStep
      rw [fact_of hy, hz3]
    refine ⟨_, rfl, L.a, _, L.dx, _, _, rfl, hN'.obj.1, G.cl_Node, G.n_Node_facts, nF_facts, _, rfl, L.lf, ws, _, _, rfl, rfl, SqL.of hw.1, atI_nat hu, ?_⟩
    refine ⟨_, rfl, a, _, _, _, rfl, rfl, SqT.of ha, rfl, rfl, _, rfl, ?_⟩
    refine ite2 (fun c => ?_) (fun c => ?_)
    · have c1 : y.sort = 1 := (vint_eq (j := 1)).mp c
      refine ⟨_, rfl, L.a, L.dx, _, rfl, hN'.obj.1, nF_no_has_passed, _, rfl, L.a, _, L.dx, _, _, rfl, hN'.obj.1, G.cl_Node, G.n_Node_since, nF_since, _, rfl, L.ls, _, _, _, rfl, rfl, SqL.of hN'.snc.1, atI_nat hz2, _, rfl, ?_⟩
      refine ⟨g, L, i, _, z, p, rfl, hN', ?_⟩
      refine ⟨_, rfl, ?_⟩
      refine ite2 (fun d => ?_) (fun d => ?_)
      · refine ⟨_, rfl, L.a, L.dx, _, rfl, hN'.obj.1, nF_no_learn, _, rfl, _, rfl, a, _, _, _, rfl, rfl, SqT.of ha, rfl, ?_⟩
        refine ⟨g, L, i, _, k, ⟨y.num, 2⟩, rfl, hN', by omega, by omega, fun H2 h1 h2 => ?_⟩
        refine ⟨_, _, rfl, ?_, m.trans h2⟩
        rw [st, if_pos ⟨c1, of_decide_eq_true d⟩]
        exact h1
      · refine ⟨_, _, rfl, ?_, m⟩
        rw [st, if_neg fun z => d (decide_eq_true z.2)]
        exact hN'
    · have c1 : ¬ y.sort = 1 := fun z => c ((vint_eq (j := 1)).mpr z)
      refine iteF ?_
      refine ⟨_, _, rfl, ?_, m⟩
      rw [st, if_neg fun z => c1 z.1]
      exact hN'
  · rintro σ H' ⟨v1, v2, rfl, hN', m⟩
    rw [eu] at hN'
    exact q H' hN' m
theorem ok_Node_give_up (G : Pg K mg) : FnOk P w K mg base CX0 2 G.f_Node_give_up G.fd_Node_give_up ["self", "patience"] (sp_Node_give_up G) := by
  refine G.F_Node_give_up.ok sc_Node_give_up (fun vs H Q E h => len_Node_give_up h) (fun cdv A outer s H vs Q E hr h => ⟨t_Node_give_up G (sp_Node_has_passed G) (sp_Node_learn G), bd_Node_give_up G (ok_Node_has_passed G) (ok_Node_learn G) hr, rd_Node_give_up G h⟩)
end

end Wt
namespace Wt
open PySem PySem.Spec PyProof.Rows L2
section
variable {P : Program} {w : World} {K : PySem.W.Frag} {mg : Str → Option Value} {base : Heap}
/-! ### has_node, has_letter -/
def sp_World_has_node (G : Pg K mg) : Sp := fun vs H Q _ => ∃ (H0 : Hp) (g : Gh) (W : WL) (s : Ag11.State) (k : Nat), vs = [.ref W.w, .int k] ∧ WorldAt G H0 g H W s ∧ Q (.bl (decide (k < s.nodes.length))) H
theorem len_World_has_node {G : Pg K mg} {vs : List V} {H : Hp} {Q : VK} {E : XK} (h : sp_World_has_node G vs H Q E) : vs.length = (["self", "k"] : List Str).length := by
  obtain ⟨H0, g, W, s, k, rfl, _⟩ := h
  rfl
theorem rd_World_has_node (G : Pg K mg) {vs : List V} {H : Hp} {Q : VK} {E : XK} (h : sp_World_has_node G vs H Q E) : (t_World_has_node G) { nx := fun _ H' => Q .non H', rt := Q } (start ["self", "k"] vs) H := by
  obtain ⟨H0, g, W, s, k, rfl, hW, q⟩ := h
  refine ⟨_, rfl, _, _, rfl, rfl, _, rfl, ?_⟩
  refine ite2 (fun _ => ?_) (fun c => absurd (decide_eq_true (by omega)) c)
  refine ⟨_, rfl, W.w, _, W.dx, _, _, rfl, hW.obj.1, G.cl_World, G.n_World_nodes, wF_nodes, W.ln, _, rfl, .inl (SqL.of hW.nds.1), _, _, rfl, rfl, ?_⟩
  have e : decide ((k : Int) < ((W.Ls.map fun L => V.ref L.a).length : Int)) = decide (k < s.nodes.length) := decide_eq_decide.mpr (by rw [List.length_map, hW.len]; omega)
  show Q (.bl (decide ((k : Int) < ((W.Ls.map fun L => V.ref L.a).length : Int)))) H
  rw [e]
  exact q
theorem ok_World_has_node (G : Pg K mg) : FnOk P w K mg base CX0 1 G.f_World_has_node G.fd_World_has_node ["self", "k"] (sp_World_has_node G) := by
  refine G.F_World_has_node.ok sc_World_has_node (fun vs H Q E h => len_World_has_node h) (fun cdv A outer s H vs Q E hr h => ⟨t_World_has_node G, bd_World_has_node G hr, rd_World_has_node G h⟩)
def sp_World_has_letter (G : Pg K mg) : Sp := fun vs H Q _ => ∃ (H0 : Hp) (g : Gh) (W : WL) (s : Ag11.State) (k : Nat), vs = [.ref W.w, .int k] ∧ WorldAt G H0 g H W s ∧ Q (.bl (decide (k < s.letters.length))) H
theorem len_World_has_letter {G : Pg K mg} {vs : List V} {H : Hp} {Q : VK} {E : XK} (h : sp_World_has_letter G vs H Q E) : vs.length = (["self", "k"] : List Str).length := by
  obtain ⟨H0, g, W, s, k, rfl, _⟩ := h
  rfl
theorem rd_World_has_letter (G : Pg K mg) {vs : List V} {H : Hp} {Q : VK} {E : XK} (h : sp_World_has_letter G vs H Q E) : (t_World_has_letter G) { nx := fun _ H' => Q .non H', rt := Q } (start ["self", "k"] vs) H := by
  obtain ⟨H0, g, W, s, k, rfl, hW, q⟩ := h
  obtain ⟨rs, hr, hl⟩ := hW.row
  refine ⟨_, rfl, _, _, rfl, rfl, _, rfl, ?_⟩
  refine ite2 (fun _ => ?_) (fun c => absurd (decide_eq_true (by omega)) c)
  refine ⟨_, rfl, W.w, _, W.dx, _, _, rfl, hW.obj.1, G.cl_World, G.n_World_row, wF_row, W.lr, _, rfl, .inl (SqL.of hr.1), _, _, rfl, rfl, ?_⟩
  have e : decide ((k : Int) < (rs.length : Int)) = decide (k < s.letters.length) := decide_eq_decide.mpr (by rw [paired_len hl]; omega)
  show Q (.bl (decide ((k : Int) < (rs.length : Int)))) H
  rw [e]
  exact q
theorem ok_World_has_letter (G : Pg K mg) : FnOk P w K mg base CX0 1 G.f_World_has_letter G.fd_World_has_letter ["self", "k"] (sp_World_has_letter G) := by
  refine G.F_World_has_letter.ok sc_World_has_letter (fun vs H Q E h => len_World_has_letter h) (fun cdv A outer s H vs Q E hr h => ⟨t_World_has_letter G, bd_World_has_letter G hr, rd_World_has_letter G h⟩)
/-! ### a world of which but a part has changed -/
variable {G : Pg K mg} {T : Tg → Prop} {g g' : Gh} {H H' H0 : Hp} {W : WL} {s : Ag11.State}
theorem WorldAt.keep (h : WorldAt G H0 g H W s) (m : Mv T g H g' H') (n : ∀ t, ¬ T t) : WorldAt G H0 g' H' W s := by
  obtain ⟨h1, h2, h3, h4, h5, ⟨rs, h6, h7⟩, ⟨bs, h8, h9⟩⟩ := h
  exact ⟨fun b o e => (h1 b o e).keep m (n _), h2.keep m (n _), h3.keep m (n _), h4, fun i L x a b => (h5 i L x a b).keep m (fun t _ => n t), ⟨rs, h6.keep m (n _), paired_mono (fun _ _ => LetterAt.keep m (n _)) h7⟩, ⟨bs, h8.keep m (n _), paired_mono (fun _ _ => BlameAt.keep m) h9⟩⟩
theorem WorldAt.rows {rs : List V} {ls : List Ag11.Letter} (h : WorldAt G H0 g H W s) (m : Mv (fun t => t = .row) g H g' H') (hr : At g' H' W.lr .row (.lst rs)) (hl : Paired (LetterAt G g' H') rs ls) : WorldAt G H0 g' H' W { s with letters := ls } := by
  obtain ⟨h1, h2, h3, h4, h5, _, ⟨bs, h8, h9⟩⟩ := h
  have nn : ∀ t, t ≠ Tg.row → ¬ t = Tg.row := fun _ z => z
  exact ⟨fun b o e => (h1 b o e).keep m (by intro z; cases z), h2.keep m (by intro z; cases z), h3.keep m (by intro z; cases z), h4, fun i L x a b => (h5 i L x a b).keep m (fun t q z => by rw [z] at q; exact q), ⟨rs, hr, hl⟩, ⟨bs, h8.keep m (by intro z; cases z), paired_mono (fun _ _ => BlameAt.keep m) h9⟩⟩
theorem WorldAt.blms {bs : List V} {ls : List Ag11.Blame} (h : WorldAt G H0 g H W s) (m : Mv (fun t => t = .blamed) g H g' H') (hr : At g' H' W.lb .blamed (.lst bs)) (hl : Paired (BlameAt H') bs ls) : WorldAt G H0 g' H' W { s with blames := ls } := by
  obtain ⟨h1, h2, h3, h4, h5, ⟨rs, h6, h7⟩, _⟩ := h
  exact ⟨fun b o e => (h1 b o e).keep m (by intro z; cases z), h2.keep m (by intro z; cases z), h3.keep m (by intro z; cases z), h4, fun i L x a b => (h5 i L x a b).keep m (fun t q z => by rw [z] at q; exact q), ⟨rs, h6.keep m (by intro z; cases z), paired_mono (fun _ _ => LetterAt.keep m (by intro z; cases z)) h7⟩, ⟨bs, hr, hl⟩⟩
/-! ### send -/
theorem send_room {s : Ag11.State} {x : Ag11.Letter} (h : s.letters.length < 100) : Ag11.send s [x] = { s with letters := s.letters ++ [x] } := by
  unfold Ag11.send Ag11.ROOM
  rw [List.take_of_length_le (by rw [List.length_append, List.length_singleton]; omega)]
theorem send_full {s : Ag11.State} {x : Ag11.Letter} (h : s.letters.length = 100) : Ag11.send s [x] = s := by
  unfold Ag11.send Ag11.ROOM
  rw [← h, List.take_left]
def sp_World_send (G : Pg K mg) : Sp := fun vs H Q _ => ∃ (H0 : Hp) (g : Gh) (W : WL) (s : Ag11.State) (i : Nat) (L : NL) (n : Ag11.Node) (kind to_ num whom : Nat), vs = [.ref W.w, .ref L.a, .int kind, .int to_, .int num, .int whom] ∧
  WorldAt G H0 g H W s ∧ W.Ls[i]? = some L ∧ s.nodes[i]? = some n ∧ s.letters.length ≤ 100 ∧
  ∀ (g' : Gh) (H' : Hp), WorldAt G H0 g' H' W (Ag11.send s [Ag11.letter n kind to_ i num whom]) → Q .non H'
theorem len_World_send {vs : List V} {Q : VK} {E : XK} (h : sp_World_send G vs H Q E) : vs.length = (["self", "node", "kind", "to", "number", "whom"] : List Str).length := by
  obtain ⟨H0, g, W, s, i, L, n, k1, k2, k3, k4, rfl, _⟩ := h
  rfl
theorem rd_World_send (G : Pg K mg) {vs : List V} {H : Hp} {Q : VK} {E : XK} (h : sp_World_send G vs H Q E) : (t_World_send G (sp_Letter_init G)) { nx := fun _ H' => Q .non H', rt := Q } (start ["self", "node", "kind", "to", "number", "whom"] vs) H := by
  obtain ⟨H0, g, W, s, i, L, n, kind, to_, num, whom, rfl, hW, hL, hn, hz, q⟩ := h
  obtain ⟨rs, hr, hl⟩ := hW.row
  have er : rs.length = s.letters.length := paired_len hl
  have hN := hW.nod i L n hL hn
  obtain ⟨us, hu, hf⟩ := hN.fct
  refine ⟨_, rfl, W.w, _, W.dx, _, _, rfl, hW.obj.1, G.cl_World, G.n_World_row, wF_row, W.lr, rs, rfl, .inl (SqL.of hr.1), _, _, rfl, rfl, _, rfl, ?_⟩
  refine ite2 (fun c => ?_) (fun c => ?_)
  · have c1 : (rs.length : Int) < 100 := of_decide_eq_true c
    refine ⟨_, rfl, W.w, _, W.dx, _, _, rfl, hW.obj.1, G.cl_World, G.n_World_row, wF_row, .inl ⟨rfl, rs, SqL.of hr.1⟩, ?_⟩
    refine ⟨_, rfl, _, rfl, _, rfl, L.a, _, L.dx, _, _, rfl, hN.obj.1, G.cl_Node, G.n_Node_me, nF_me, _, rfl, _, rfl, _, rfl, L.a, _, L.dx, _, _, rfl, hN.obj.1, G.cl_Node, G.n_Node_facts, nF_facts, ?_⟩
    intro x dx nx ndx nex
    have nlx : x ≠ L.lf := (ne_of_none hu.1 nx).symm
    refine ⟨x, dx, _, _, _, _, _, L.lf, us, rfl, upd_same, (by rw [upd_ne nlx.symm, upd_ne (ne_of_none hu.1 ndx)]; exact hu.1), nlx, fun l' hl' => ⟨rfl, ?_⟩⟩
    have nxl : x ≠ l' := fun e => by
      rw [← e, upd_same] at hl'
      cases hl'
    have ndl : dx ≠ l' := fun e => by
      rw [← e, upd_ne nex, upd_same] at hl'
      cases hl'
    have nl : H l' = none := by
      rw [upd_ne nxl.symm, upd_ne ndl.symm] at hl'
      exact hl'
    rw [upd_swap nxl]
    have m1 : Mv (fun t => t = .row) g H (tag g dx .imm) (upd H dx (.own x)) := Mv.new .imm ndx
    have m2 : Mv (fun t => t = .row) (tag g dx .imm) (upd H dx (.own x)) (tag (tag g dx .imm) l' .imm) (upd (upd H dx (.own x)) l' (.lst us)) := Mv.new .imm (by rw [upd_ne ndl.symm]; exact nl)
    have nx2 : upd (upd H dx (.own x)) l' (.lst us) x = none := by
      rw [upd_ne nxl, upd_ne nex.symm]
      exact nx
    have m3 : Mv (fun t => t = .row) (tag (tag g dx .imm) l' .imm) (upd (upd H dx (.own x)) l' (.lst us)) (tag (tag (tag g dx .imm) l' .imm) x .imm) (upd (upd (upd H dx (.own x)) l' (.lst us)) x (.ins G.CLetter dx (lF (.int kind) (.int to_) (.int i) (.int num) (.int whom) (.ref l')))) := Mv.new .imm nx2
    have m := (m1.trans m2).trans m3
    have hr2 := hr
    have hrow : At (tag (tag (tag g dx .imm) l' .imm) x .imm) (upd (upd (upd H dx (.own x)) l' (.lst us)) x (.ins G.CLetter dx (lF (.int kind) (.int to_) (.int i) (.int num) (.int whom) (.ref l')))) W.lr .row (.lst rs) := by
      have e1 : W.lr ≠ dx := ne_of_none hr.1 ndx
      have e2 : W.lr ≠ l' := ne_of_none hr.1 nl
      have e3 : W.lr ≠ x := ne_of_none hr.1 nx
      exact ⟨by rw [upd_ne e3, upd_ne e2, upd_ne e1]; exact hr.1, by rw [tag_ne e3, tag_ne e2, tag_ne e1]; exact hr.2⟩
    have hlet : LetterAt G (tag (tag (tag g dx .imm) l' .imm) x .imm) (upd (upd (upd H dx (.own x)) l' (.lst us)) x (.ins G.CLetter dx (lF (.int kind) (.int to_) (.int i) (.int num) (.int whom) (.ref l')))) (.ref x) (Ag11.letter n kind to_ i num whom) :=
      ⟨x, dx, l', us, rfl, ⟨upd_same, tag_same⟩, ⟨by rw [upd_ne nxl.symm, upd_same], by rw [tag_ne nxl.symm, tag_same]⟩, hf.keep m⟩
    have hold : Paired (LetterAt G (tag (tag (tag g dx .imm) l' .imm) x .imm) (upd (upd (upd H dx (.own x)) l' (.lst us)) x (.ins G.CLetter dx (lF (.int kind) (.int to_) (.int i) (.int num) (.int whom) (.ref l'))))) rs s.letters :=
      paired_mono (fun _ _ => LetterAt.keep m (by intro z; cases z)) hl
    refine ⟨W.lr, rs, .ref x, rfl, rfl, hrow.1, Nat.lt_of_lt_of_le (show rs.length < 100 by omega) (by decide), ?_⟩
    have m4 : Mv (fun t => t = .row) _ _ _ (upd (upd (upd (upd H dx (.own x)) l' (.lst us)) x (.ins G.CLetter dx (lF (.int kind) (.int to_) (.int i) (.int num) (.int whom) (.ref l')))) W.lr (.lst (rs ++ [.ref x]))) := Mv.put hrow rfl (fun z => z)
    refine q (tag (tag (tag g dx .imm) l' .imm) x .imm) _ ?_
    rw [send_room (by omega)]
    exact hW.rows (m.trans m4) (At.put hrow) (paired_snoc (paired_mono (fun _ _ => LetterAt.keep m4 (by intro z; cases z)) hold) (hlet.keep m4 (by intro z; cases z)))
  · have c1 : ¬ (rs.length : Int) < 100 := of_decide_eq_false (Bool.not_eq_true _ ▸ c)
    refine q g H ?_
    rw [send_full (by omega)]
    exact hW
theorem ok_World_send (G : Pg K mg) : FnOk P w K mg base CX0 3 G.f_World_send G.fd_World_send ["self", "node", "kind", "to", "number", "whom"] (sp_World_send G) := by
  refine G.F_World_send.ok sc_World_send (fun vs H Q E h => len_World_send h) (fun cdv A outer s H vs Q E hr h => ⟨t_World_send G (sp_Letter_init G), bd_World_send G (ok_Letter_init G) hr, rd_World_send G h⟩)
/-! ### Node -/
theorem FactAt.tups {v : V} {f : Ag11.Fact} (m : ∀ b xs, H b = some (.tup xs) → H' b = some (.tup xs)) (h : FactAt H v f) : FactAt H' v f := by
  obtain ⟨t, e, h⟩ := h
  exact ⟨t, e, m _ _ h⟩
theorem FactsAt.tups {vs : List V} {fs : List Ag11.Fact} (m : ∀ b xs, H b = some (.tup xs) → H' b = some (.tup xs)) (h : FactsAt H vs fs) : FactsAt H' vs fs := paired_mono (fun _ _ => FactAt.tups m) h
def forgot (n : List (Str × V)) (lf ls ld : Addr) : List (Str × V) := putF "for_others" (.ref ld) (putF "asking" .non (putF "since" (.ref ls) (putF "facts" (.ref lf) (putF "clock" (.int 0) n))))
def sp_Node_forget (G : Pg K mg) : Sp := fun vs H Q _ => ∃ (p dx : Addr) (fs : List (Str × V)) (n : Nat), vs = [.ref p, .int n] ∧ H p = some (.ins G.CNode dx fs) ∧ fs.length ≤ 9 ∧ n ≤ 5 ∧
  ∀ (H' : Hp) (lf ls ld : Addr) (us : List V), (∀ b o, H b = some o → b ≠ p → H' b = some o) → H lf = none → H ls = none → H ld = none → lf ≠ ls → lf ≠ ld → ls ≠ ld →
    H' p = some (.ins G.CNode dx (forgot fs lf ls ld)) → H' lf = some (.lst us) → FactsAt H' us (List.replicate n ⟨0, 0⟩) → H' ls = some (.lst (List.replicate n (.int 0))) → H' ld = some (.dK []) → Q .non H'
theorem len_Node_forget {vs : List V} {Q : VK} {E : XK} (h : sp_Node_forget G vs H Q E) : vs.length = (["self", "count"] : List Str).length := by
  obtain ⟨p, dx, fs, n, rfl, _⟩ := h
  rfl
theorem replicate_more {α : Type} {n : Nat} {x : α} : List.replicate (n + 1) x = List.replicate n x ++ [x] := by
  rw [List.replicate_succ']
theorem rd_Node_forget (G : Pg K mg) {vs : List V} {H : Hp} {Q : VK} {E : XK} (h : sp_Node_forget G vs H Q E) : (t_Node_forget G) { nx := fun _ H' => Q .non H', rt := Q } (start ["self", "count", "k"] vs) H := by
  obtain ⟨p, dx, fs, n, rfl, hp, hfs, h5, q⟩ := h
  refine ⟨_, rfl, p, _, dx, _, rfl, hp, G.cl_Node, G.n_Node_clock, lt_init hfs (by decide), ?_⟩
  generalize ho1 : (putF "clock" (V.int 0) fs) = fs1
  have ll : fs1.length ≤ 10 := by
    rw [← ho1]
    exact pl1 hfs
  refine ⟨_, rfl, (n : Int), rfl, by omega, by omega, fun D hD => ?_⟩
  have npD : p ≠ D := fun e => by
    rw [← e, upd_same] at hD
    cases hD
  have hD0 : H D = none := by
    rw [upd_ne npD.symm] at hD
    exact hD
  refine lc_range (lo := 0) (n := n) (fun k H' => ∃ us, H' D = some (.lst us) ∧ FactsAt H' us (List.replicate k ⟨0, 0⟩) ∧ ∀ b o, upd H p (.ins G.CNode dx fs1) b = some o → H' b = some o)
    ⟨[], upd_same, .nil, fun b o e => by rw [upd_ne (ne_of_none e hD)]; exact e⟩ ?_ ?_
  · rintro k H1 hk ⟨us, h1, h2, h3⟩
    refine ⟨rfl, (by show 2 ≤ sizeLine; decide), fun t ht => ?_⟩
    have nt : D ≠ t := ne_of_none h1 ht
    refine ⟨us, by rw [upd_ne nt]; exact h1, ?_, us ++ [.ref t], upd_same, ?_, fun b o e => ?_⟩
    · have e := paired_len h2
      rw [List.length_replicate] at e
      rw [e]
      exact Nat.lt_of_lt_of_le (show k < 5 by omega) (by decide)
    · have tu : ∀ b xs, H1 b = some (.tup xs) → upd (upd H1 t (.tup [.int 0, .int 0])) D (.lst (us ++ [.ref t])) b = some (.tup xs) := fun b xs e => by
        rw [upd_ne (ne_of e h1 (by intro z; cases z)), upd_ne (ne_of_none e ht)]
        exact e
      rw [replicate_more]
      exact paired_snoc (FactsAt.tups tu h2) ⟨t, rfl, by rw [upd_ne nt.symm, upd_same]; rfl⟩
    · rw [upd_ne (ne_of_none e hD), upd_ne (ne_of_none (h3 b o e) ht)]
      exact h3 b o e
  · rintro H1 ⟨us, h1, h2, h3⟩
    have hp1 : H1 p = some (.ins G.CNode dx fs1) := h3 p _ upd_same
    refine ⟨_, rfl, p, _, dx, _, rfl, hp1, G.cl_Node, G.n_Node_facts, lt_init ll (by decide), ?_⟩
    refine ⟨_, rfl, (n : Int), rfl, by omega, by omega, fun D2 hD2 => ?_⟩
    have npD2 : p ≠ D2 := fun e => by
      rw [← e, upd_same] at hD2
      cases hD2
    have hD21 : H1 D2 = none := by
      rw [upd_ne npD2.symm] at hD2
      exact hD2
    have nDD2 : D ≠ D2 := ne_of_none h1 hD21
    refine lc_range (lo := 0) (n := n) (fun k H' => H' D2 = some (.lst (List.replicate k (.int 0))) ∧ ∀ b o, upd H1 p (.ins G.CNode dx (putF "facts" (.ref D) fs1)) b = some o → H' b = some o)
      ⟨upd_same, fun b o e => by rw [upd_ne (ne_of_none e hD2)]; exact e⟩ ?_ ?_
    · rintro k H2 hk ⟨k1, k3⟩
      refine ⟨rfl, _, k1, ?_, ?_, fun b o e => ?_⟩
      · rw [List.length_replicate]
        exact Nat.lt_of_lt_of_le (show k < 5 by omega) (by decide)
      · rw [replicate_more]
        exact upd_same
      · rw [upd_ne (ne_of_none e hD2)]
        exact k3 b o e
    · rintro H2 ⟨k1, k3⟩
      have hp2 : H2 p = some (.ins G.CNode dx (putF "facts" (.ref D) fs1)) := k3 p _ upd_same
      refine ⟨_, rfl, p, _, dx, _, rfl, hp2, G.cl_Node, G.n_Node_since, lt_init (pl1 ll) (by decide), ?_⟩
      refine ⟨_, rfl, p, _, dx, _, rfl, upd_same, G.cl_Node, G.n_Node_asking, lt_init (pl1 (pl1 ll)) (by decide), ?_⟩
      rw [upd_upd]
      intro d hd
      have npd : p ≠ d := fun e => by
        rw [← e, upd_same] at hd
        cases hd
      have hd2 : H2 d = none := by
        rw [upd_ne npd.symm] at hd
        exact hd
      refine ⟨_, rfl, p, _, dx, _, rfl, (by rw [upd_ne npd]; exact upd_same), G.cl_Node, G.n_Node_for_others, lt_init (pl1 (pl1 (pl1 ll))) (by decide), ?_⟩
      rw [upd_swap npd]
      have kD : H2 D = some (.lst us) := k3 D _ (by rw [upd_ne npD.symm]; exact h1)
      have hd1 : H d = none := by
        cases z : H d with
        | none => rfl
        | some o =>
          have := k3 d o (by rw [upd_ne npd.symm]; exact h3 d o (by rw [upd_ne npd.symm]; exact z))
          rw [hd2] at this
          cases this
      have hD20 : H D2 = none := by
        cases z : H D2 with
        | none => rfl
        | some o =>
          have := h3 D2 o (by rw [upd_ne npD2.symm]; exact z)
          rw [hD21] at this
          cases this
      have tu : ∀ b xs, H1 b = some (.tup xs) → upd (upd H2 d (.dK [])) p (.ins G.CNode dx (putF "for_others" (.ref d) (putF "asking" .non (putF "since" (.ref D2) (putF "facts" (.ref D) fs1))))) b = some (.tup xs) := fun b xs e => by
        have e2 : b ≠ p := ne_of e hp1 (by intro z; cases z)
        have e3 := k3 b _ (by rw [upd_ne e2]; exact e)
        rw [upd_ne e2, upd_ne (ne_of_none e3 hd2)]
        exact e3
      refine q _ D D2 d us (fun b o e nb => ?_) hD0 hD20 hd1 nDD2 (ne_of_none kD hd2) (ne_of_none k1 hd2) ?_ ?_ (FactsAt.tups tu h2) ?_ ?_
      · have e3 := k3 b o (by rw [upd_ne nb]; exact h3 b o (by rw [upd_ne nb]; exact e))
        rw [upd_ne nb, upd_ne (ne_of_none e3 hd2)]
        exact e3
      · rw [upd_same, ← ho1]
        rfl
      · rw [upd_ne npD.symm, upd_ne (ne_of_none kD hd2)]
        exact kD
      · rw [upd_ne npD2.symm, upd_ne (ne_of_none k1 hd2)]
        exact k1
      · rw [upd_ne npd.symm, upd_same]
theorem ok_Node_forget (G : Pg K mg) : FnOk P w K mg base CX0 1 G.f_Node_forget G.fd_Node_forget ["self", "count"] (sp_Node_forget G) := by
  refine G.F_Node_forget.ok sc_Node_forget (fun vs H Q E h => len_Node_forget h) (fun cdv A outer s H vs Q E hr h => ⟨t_Node_forget G, bd_Node_forget G hr, rd_Node_forget G h⟩)
theorem no_forget {v0 v1 v2 v3 : V} : (putF "asked" v3 (putF "own" v2 (putF "runs" v1 (putF "me" v0 [])))).lookup ("forget" : Str) = none := by
  rw [nF_st1, nF_st2, nF_st3, nF_st4]
  exact (lk_past (by decide +kernel)).trans ((lk_past (by decide +kernel)).trans ((lk_past (by decide +kernel)).trans ((lk_past (by decide +kernel)).trans rfl)))
def sp_Node_init (G : Pg K mg) : Sp := fun vs H Q _ => ∃ (p dx : Addr) (i n : Nat), vs = [.ref p, .int i, .int n] ∧ H p = some (.ins G.CNode dx []) ∧ n ≤ 5 ∧
  ∀ (H' : Hp) (lf ls ld : Addr) (us : List V), (∀ b o, H b = some o → b ≠ p → H' b = some o) → H lf = none → H ls = none → H ld = none → lf ≠ ls → lf ≠ ld → ls ≠ ld →
    H' p = some (.ins G.CNode dx (nF (.int i) (.bl true) (.int 0) (.int 0) (.int 0) (.ref lf) (.ref ls) .non (.ref ld))) → H' lf = some (.lst us) → FactsAt H' us (List.replicate n ⟨0, 0⟩) → H' ls = some (.lst (List.replicate n (.int 0))) → H' ld = some (.dK []) → Q .non H'
theorem len_Node_init {vs : List V} {Q : VK} {E : XK} (h : sp_Node_init G vs H Q E) : vs.length = (["self", "me", "count"] : List Str).length := by
  obtain ⟨p, dx, i, n, rfl, _⟩ := h
  rfl
theorem rd_Node_init (G : Pg K mg) {vs : List V} {H : Hp} {Q : VK} {E : XK} (h : sp_Node_init G vs H Q E) : (t_Node_init G (sp_Node_forget G)) { nx := fun _ H' => Q .non H', rt := Q } (start ["self", "me", "count"] vs) H := by
  obtain ⟨p, dx, i, n, rfl, hp, h5, q⟩ := h
  refine ⟨_, rfl, _, rfl, p, _, dx, _, rfl, hp, G.cl_Node, G.n_Node_me, (by decide), ?_⟩
  refine ⟨_, rfl, p, _, dx, _, rfl, upd_same, G.cl_Node, G.n_Node_runs, lt_init (pl1 (Nat.le_refl 0)) (by decide), ?_⟩
  refine ⟨_, rfl, p, _, dx, _, rfl, upd_same, G.cl_Node, G.n_Node_own, lt_init (pl1 (pl1 (Nat.le_refl 0))) (by decide), ?_⟩
  refine ⟨_, rfl, p, _, dx, _, rfl, upd_same, G.cl_Node, G.n_Node_asked, lt_init (pl1 (pl1 (pl1 (Nat.le_refl 0)))) (by decide), ?_⟩
  rw [upd_upd, upd_upd, upd_upd]
  refine ⟨_, rfl, p, dx, _, rfl, upd_same, no_forget, _, rfl, ?_⟩
  refine ⟨p, dx, _, n, rfl, upd_same, Nat.le_trans (pl1 (pl1 (pl1 (pl1 (Nat.le_refl 0))))) (by decide), h5, fun H' lf ls ld us kp f1 f2 f3 n1 n2 n3 o1 o2 o3 o4 o5 => ?_⟩
  have fr : ∀ l, upd H p (.ins G.CNode dx (putF "asked" (V.int 0) (putF "own" (V.int 0) (putF "runs" (V.bl true) (putF "me" (V.int i) []))))) l = none → H l = none := fun l e => by
    by_cases c : l = p
    · rw [c, upd_same] at e
      cases e
    · rw [upd_ne c] at e
      exact e
  refine q H' lf ls ld us (fun b o e nb => kp b o (by rw [upd_ne nb]; exact e) nb) (fr _ f1) (fr _ f2) (fr _ f3) n1 n2 n3 ?_ o2 o3 o4 o5
  rw [o1]
  unfold forgot
  rw [nF_init]
theorem ok_Node_init (G : Pg K mg) : FnOk P w K mg base CX0 2 G.f_Node_init G.fd_Node_init ["self", "me", "count"] (sp_Node_init G) := by
  refine G.F_Node_init.ok sc_Node_init (fun vs H Q E h => len_Node_init h) (fun cdv A outer s H vs Q E hr h => ⟨t_Node_init G (sp_Node_forget G), bd_Node_init G (ok_Node_forget G) hr, rd_Node_init G h⟩)
end

end Wt
namespace Wt
open PySem PySem.Spec PyProof.Rows L2
section
variable {P : Program} {w : World} {K : PySem.W.Frag} {mg : Str → Option Value} {base : Heap}
variable {G : Pg K mg} {T : Tg → Prop} {g g' : Gh} {H H' H0 : Hp} {W : WL} {s : Ag11.State}
/-! ### tests -/
theorem nT {c A B : Prop} [Decidable c] (hc : ¬ c) (h : A) : if (!decide c) = true then A else B := by
  rw [decide_eq_false hc]
  exact h
theorem nF' {c A B : Prop} [Decidable c] (hc : c) (h : B) : if (!decide c) = true then A else B := by
  rw [decide_eq_true hc]
  exact h
theorem dT {c A B : Prop} [Decidable c] (hc : c) (h : A) : if decide c = true then A else B := by
  rw [decide_eq_true hc]
  exact h
theorem dF {c A B : Prop} [Decidable c] (hc : ¬ c) (h : B) : if decide c = true then A else B := by
  rw [decide_eq_false hc]
  exact h
theorem bT {c : Bool} {A B : Prop} (hc : c = true) (h : A) : if c = true then A else B := by
  rw [hc]
  exact h
theorem bF {c : Bool} {A B : Prop} (hc : c = false) (h : B) : if c = true then A else B := by
  rw [hc]
  exact h
/-! ### the World's making -/
theorem fresh_facts {n i : Nat} : (List.replicate n (⟨0, 0⟩ : Ag11.Fact)).set i ⟨0, 0⟩ = List.replicate n ⟨0, 0⟩ := by
  apply List.ext_getElem?
  intro j
  rw [List.getElem?_set]
  by_cases c : i = j
  · subst c
    rw [if_pos rfl, List.length_replicate, List.getElem?_replicate]
  · rw [if_neg c]
def world0 (n wt pt : Nat) : Ag11.State := ⟨wt, pt, (List.range n).map fun (i : Nat) => Ag11.fresh n 0 0 i, [], []⟩
def sp_World_init (G : Pg K mg) : Sp := fun vs H Q _ => ∃ (H0 : Hp) (w dx : Addr) (n wt pt : Nat), vs = [.ref w, .int n, .int wt, .int pt] ∧ H w = some (.ins G.CWorld dx []) ∧ Same H0 H ∧ H0 w = none ∧ n ≤ 5 ∧
  ∀ (g' : Gh) (H' : Hp) (W : WL), W.w = w → WorldAt G H0 g' H' W (world0 n wt pt) → Q .non H'
theorem len_World_init {vs : List V} {Q : VK} {E : XK} (h : sp_World_init G vs H Q E) : vs.length = (["self", "count", "wait", "patience"] : List Str).length := by
  obtain ⟨H0, w, dx, n, wt, pt, rfl, _⟩ := h
  rfl
theorem rd_World_init (G : Pg K mg) {vs : List V} {H : Hp} {Q : VK} {E : XK} (h : sp_World_init G vs H Q E) : (t_World_init G (sp_Node_init G)) { nx := fun _ H' => Q .non H', rt := Q } (start ["self", "count", "wait", "patience", "k"] vs) H := by
  obtain ⟨H0, w, dx, n, wt, pt, rfl, hw, sm, w0, h5, q⟩ := h
  refine ⟨_, rfl, _, rfl, w, _, dx, _, rfl, hw, G.cl_World, G.n_World_wait, (by decide), ?_⟩
  refine ⟨_, rfl, _, rfl, w, _, dx, _, rfl, upd_same, G.cl_World, G.n_World_patience, lt_init (pl1 (Nat.le_refl 0)) (by decide), ?_⟩
  rw [upd_upd]
  generalize ho1 : (putF "patience" (V.int pt) (putF "wait" (V.int wt) [])) = fs1
  have ll : fs1.length ≤ 2 := by
    rw [← ho1]
    exact pl1 (pl1 (Nat.le_refl 0))
  refine ⟨_, rfl, (n : Int), rfl, by omega, by omega, fun D hD => ?_⟩
  have nwD : w ≠ D := fun e => by
    rw [← e, upd_same] at hD
    cases hD
  have hD0 : H D = none := by
    rw [upd_ne nwD.symm] at hD
    exact hD
  refine lc_range (lo := 0) (n := n) (fun k H' => ∃ (g : Gh) (Ls : List NL), Ls.length = k ∧ At g H' D .nodes (.lst (Ls.map fun L => V.ref L.a)) ∧ (∀ b o, H0 b = some o → At g H' b .out o) ∧ At g H' w .world (.ins G.CWorld dx fs1) ∧
      ∀ j L, Ls[j]? = some L → NodeAt G g H' L j (Ag11.fresh n 0 0 j))
    ⟨tag (tag (fun _ => .out) w .world) D .nodes, [], rfl, ⟨upd_same, tag_same⟩, fun b o e => ?_, ⟨by rw [upd_ne nwD]; exact upd_same, by rw [tag_ne nwD, tag_same]⟩, fun j L e => by simp at e⟩ ?_ ?_
  · have e1 : b ≠ w := ne_of_none e w0
    have e2 : b ≠ D := ne_of_none (sm b o e) hD0
    exact ⟨by rw [upd_ne e2, upd_ne e1]; exact sm b o e, by rw [tag_ne e2, tag_ne e1]⟩
  · rintro k H1 hk ⟨g, Ls, eL, hD1, hO, hW, hN⟩
    rw [Int.zero_add]
    refine ⟨rfl, _, rfl, _, rfl, ?_⟩
    intro x d nx nd nex
    refine ⟨x, d, k, n, rfl, upd_same, h5, fun H2 lf ls ld us kp f1 f2 f3 n1 n2 n3 o1 o2 o3 o4 o5 => ⟨rfl, ?_⟩⟩
    have old : ∀ b o, H1 b = some o → b ≠ x ∧ b ≠ d ∧ b ≠ lf ∧ b ≠ ls ∧ b ≠ ld ∧ H2 b = some o := fun b o e => by
      have e1 : b ≠ x := ne_of_none e nx
      have e2 : b ≠ d := ne_of_none e nd
      have e3 : upd (upd H1 d (.own x)) x (.ins G.CNode d []) b = some o := by
        rw [upd_ne e1, upd_ne e2]
        exact e
      exact ⟨e1, e2, ne_of_none e3 f1, ne_of_none e3 f2, ne_of_none e3 f3, kp b o e3 e1⟩
    have xf : ∀ l, upd (upd H1 d (.own x)) x (.ins G.CNode d []) l = none → x ≠ l := fun l e z => by
      rw [← z, upd_same] at e
      cases e
    let g2 : Gh := tag (tag (tag (tag g x (.node k)) lf (.facts k)) ls (.since k)) ld (.dict k)
    have m : Mv (fun _ => False) g H1 g2 H2 := fun b o e => by
      obtain ⟨e1, e2, e3, e4, e5, e6⟩ := old b o e
      exact ⟨by show tag (tag (tag (tag g x (.node k)) lf (.facts k)) ls (.since k)) ld (.dict k) b = g b; rw [tag_ne e5, tag_ne e4, tag_ne e3, tag_ne e1], ⟨o, e6⟩, fun _ => e6⟩
    have hD2 : At g2 H2 D .nodes (.lst (Ls.map fun L => V.ref L.a)) := hD1.keep m (fun z => z)
    have m2 : Mv (fun t => t = .nodes) g2 H2 g2 (upd H2 D (.lst ((Ls.map fun L => V.ref L.a) ++ [.ref x]))) := Mv.put hD2 rfl (fun z => z)
    have mm := (m.mono (T' := fun t => t = .nodes) (fun _ z => z.elim)).trans m2
    have nN : NodeAt G g2 H2 ⟨x, d, lf, ls, ld, .non⟩ k (Ag11.fresh n 0 0 k) := by
      refine ⟨⟨o1, ?_⟩, ⟨us, ⟨o2, ?_⟩, ?_⟩, ⟨?_, ?_⟩, rfl, ⟨[], ⟨o5, tag_same⟩, .nil⟩⟩
      · show tag (tag (tag (tag g x (.node k)) lf (.facts k)) ls (.since k)) ld (.dict k) x = .node k
        rw [tag_ne (xf _ f3), tag_ne (xf _ f2), tag_ne (xf _ f1), tag_same]
      · show tag (tag (tag (tag g x (.node k)) lf (.facts k)) ls (.since k)) ld (.dict k) lf = .facts k
        rw [tag_ne n2, tag_ne n1, tag_same]
      · show FactsAt H2 us ((List.replicate n ⟨0, 0⟩).set k ⟨0, 0⟩)
        rw [fresh_facts]
        exact o3
      · show H2 ls = some (.lst ((List.replicate n 0).map nI))
        rw [List.map_replicate]
        exact o4
      · show tag (tag (tag (tag g x (.node k)) lf (.facts k)) ls (.since k)) ld (.dict k) ls = .since k
        rw [tag_ne n3, tag_same]
    refine ⟨_, hD2.1, ?_, g2, Ls ++ [⟨x, d, lf, ls, ld, .non⟩], ?_, ?_, fun b o e => (hO b o e).keep mm (by intro z; cases z), hW.keep mm (by intro z; cases z), fun j L e => ?_⟩
    · rw [List.length_map, eL]
      exact Nat.lt_of_lt_of_le (show k < 5 by omega) (by decide)
    · rw [List.length_append, eL]
      rfl
    · rw [List.map_append]
      exact At.put hD2
    · by_cases c : j < Ls.length
      · rw [List.getElem?_append_left c] at e
        exact (hN j L e).keep mm (fun t z y => by rw [y] at z; exact z)
      · rw [List.getElem?_append_right (by omega)] at e
        have e1 : j - Ls.length = 0 := by
          cases z : j - Ls.length with
          | zero => rfl
          | succ y =>
            rw [z] at e
            simp at e
        rw [e1] at e
        have e2 : j = k := by omega
        cases e
        rw [e2]
        exact nN.keep m2 (fun t z y => by rw [y] at z; exact z)
  · rintro H1 ⟨g, Ls, eL, hD1, hO, hW, hN⟩
    refine ⟨_, rfl, w, _, dx, _, rfl, hW.1, G.cl_World, G.n_World_nodes, lt_init ll (by decide), ?_⟩
    refine ⟨Nat.zero_le _, fun r hr => ?_⟩
    have nwr : w ≠ r := fun e => by
      rw [← e, upd_same] at hr
      cases hr
    have hr1 : H1 r = none := by
      rw [upd_ne nwr.symm] at hr
      exact hr
    refine ⟨_, rfl, w, _, dx, _, rfl, (by rw [upd_ne nwr]; exact upd_same), G.cl_World, G.n_World_row, lt_init (pl1 ll) (by decide), ?_⟩
    rw [upd_swap nwr]
    refine ⟨Nat.zero_le _, fun b hb => ?_⟩
    have nwb : w ≠ b := fun e => by
      rw [← e, upd_same] at hb
      cases hb
    have hb1 : upd H1 r (.lst []) b = none := by
      rw [upd_ne nwb.symm] at hb
      exact hb
    refine ⟨_, rfl, w, _, dx, _, rfl, (by rw [upd_ne nwb]; exact upd_same), G.cl_World, G.n_World_blamed, lt_init (pl1 (pl1 ll)) (by decide), ?_⟩
    rw [upd_swap nwb, ← ho1, wF_init]
    have nrb : r ≠ b := fun e => by
      rw [← e, upd_same] at hb1
      cases hb1
    have m1 : Mv (fun t => t = .world) g H1 (tag g r .row) (upd H1 r (.lst [])) := Mv.new .row hr1
    have m2 : Mv (fun t => t = .world) (tag g r .row) (upd H1 r (.lst [])) (tag (tag g r .row) b .blamed) (upd (upd H1 r (.lst [])) b (.lst [])) := Mv.new .blamed hb1
    have hW2 := At.keep (t := .world) (T := fun _ => False) ((Mv.new (o := .lst []) .row hr1).trans (Mv.new (o := .lst []) .blamed hb1)) (fun z => z) hW
    have m3 : Mv (fun t => t = .world) _ _ _ (upd (upd (upd H1 r (.lst [])) b (.lst [])) w (.ins G.CWorld dx (wF (.int wt) (.int pt) (.ref D) (.ref r) (.ref b)))) := Mv.put hW2 rfl (fun z => z)
    have mm := (m1.trans m2).trans m3
    refine q (tag (tag g r .row) b .blamed) _ ⟨w, dx, D, r, b, Ls⟩ rfl ⟨fun c o e => (hO c o e).keep mm (by intro z; cases z), At.put hW2, hD1.keep mm (by intro z; cases z), ?_, fun i L x hL hx => ?_, ⟨[], ⟨?_, ?_⟩, .nil⟩, ⟨[], ⟨?_, ?_⟩, .nil⟩⟩
    · show Ls.length = ((List.range n).map fun (i : Nat) => Ag11.fresh n 0 0 i).length
      rw [List.length_map, List.length_range]
      exact eL
    · have hx : ((List.range n).map fun (i : Nat) => Ag11.fresh n 0 0 i)[i]? = some x := hx
      have hi : i < n := by
        have := (List.getElem?_eq_some_iff.mp hx).1
        rw [List.length_map, List.length_range] at this
        exact this
      rw [List.getElem?_map, List.getElem?_range hi] at hx
      cases hx
      exact (hN i L hL).keep mm (fun t z y => by rw [y] at z; exact z)
    · show upd (upd (upd H1 r (.lst [])) b (.lst [])) w _ r = _
      rw [upd_ne nwr.symm, upd_ne nrb, upd_same]
    · show tag (tag g r .row) b .blamed r = .row
      rw [tag_ne nrb, tag_same]
    · show upd (upd (upd H1 r (.lst [])) b (.lst [])) w _ b = _
      rw [upd_ne nwb.symm, upd_same]
    · exact tag_same
theorem ok_World_init (G : Pg K mg) : FnOk P w K mg base CX0 4 G.f_World_init G.fd_World_init ["self", "count", "wait", "patience"] (sp_World_init G) := by
  refine G.F_World_init.ok sc_World_init (fun vs H Q E h => len_World_init h) (fun cdv A outer s H vs Q E hr h => ⟨t_World_init G (sp_Node_init G), bd_World_init G (ok_Node_init G) hr, rd_World_init G h⟩)
end

end Wt
namespace Wt
open PySem PySem.Spec PyProof.Rows L2
/-! ### what holds of every state that is reached -/
structure NGood (N : Nat) (n : Ag11.Node) : Prop where
  fl : n.facts.length = N
  sl : n.since.length = N
  pw : ∀ p, n.probe = some p → p.whom < N
  rl : ∀ r ∈ n.relays, r.num ≤ n.count ∧ r.for_ < N
  rc : n.relays.length ≤ n.count
  rn : n.relays.Pairwise fun a b => ¬ a.num = b.num
structure LGood (N : Nat) (x : Ag11.Letter) : Prop where
  kd : x.kind ≤ 2
  to_ : x.to_ < N
  from_ : x.from_ < N
  whom : x.whom < N
  fl : x.facts.length = N
structure Good (t : Nat) (s : Ag11.State) : Prop where
  lo : 2 ≤ s.nodes.length
  hi : s.nodes.length ≤ 5
  wt : s.wait ≤ 20
  nd : ∀ (i : Nat) (n : Ag11.Node), s.nodes[i]? = some n → NGood s.nodes.length n ∧ n.count ≤ t
  lt : ∀ x ∈ s.letters, LGood s.nodes.length x
  ll : s.letters.length ≤ 100
  bl : s.blames.length ≤ t
theorem node_of {s : Ag11.State} {i : Nat} {n : Ag11.Node} (h : s.nodes[i]? = some n) : Ag11.node s i = n := by
  unfold Ag11.node
  rw [List.getD_eq_getElem?_getD, h]
  rfl
theorem node_in {s : Ag11.State} {i : Nat} (h : i < s.nodes.length) : ∃ n, s.nodes[i]? = some n := ⟨s.nodes[i], List.getElem?_eq_getElem h⟩
theorem setNode_at {s : Ag11.State} {i : Nat} {n : Ag11.Node} (h : i < s.nodes.length) : (Ag11.setNode s i n).nodes[i]? = some n := by
  rw [setNode_get, if_pos rfl, if_pos h]
theorem setNode_two {s : Ag11.State} {i : Nat} {n m : Ag11.Node} : Ag11.setNode (Ag11.setNode s i n) i m = Ag11.setNode s i m := by
  unfold Ag11.setNode
  rw [List.set_set]
theorem setNode_same {s : Ag11.State} {i : Nat} {n : Ag11.Node} (h : s.nodes[i]? = some n) : Ag11.setNode s i n = s := by
  unfold Ag11.setNode
  rw [set_self h]
theorem setNode_len {s : Ag11.State} {i : Nat} {n : Ag11.Node} : (Ag11.setNode s i n).nodes.length = s.nodes.length := List.length_set
section
variable {P : Program} {w : World} {K : PySem.W.Frag} {mg : Str → Option Value} {base : Heap}
variable {G : Pg K mg} {T : Tg → Prop} {g g' : Gh} {H H' H0 : Hp} {W : WL} {s : Ag11.State}
/-! ### blame -/
def blameS (s : Ag11.State) (i : Nat) (n : Ag11.Node) (m : Nat) : Ag11.State :=
  if (Ag11.fact n m).sort = 0 then { Ag11.setNode s i (Ag11.learn n m ⟨(Ag11.fact n m).num, 1⟩) with blames := s.blames ++ [⟨i, m, (Ag11.fact n m).num⟩] } else s
def sp_World_blame (G : Pg K mg) : Sp := fun vs H Q _ => ∃ (H0 : Hp) (g : Gh) (W : WL) (s : Ag11.State) (i : Nat) (L : NL) (n : Ag11.Node) (m : Nat), vs = [.ref W.w, .ref L.a, .int m] ∧ WorldAt G H0 g H W s ∧ W.Ls[i]? = some L ∧ s.nodes[i]? = some n ∧
  m < n.facts.length ∧ n.since.length = n.facts.length ∧ s.blames.length ≤ 1000 ∧ ∀ (g' : Gh) (H' : Hp), WorldAt G H0 g' H' W (blameS s i n m) → Q .non H'
theorem len_World_blame {vs : List V} {Q : VK} {E : XK} (h : sp_World_blame G vs H Q E) : vs.length = (["self", "node", "whom"] : List Str).length := by
  obtain ⟨H0, g, W, s, i, L, n, m, rfl, _⟩ := h
  rfl
theorem rd_World_blame (G : Pg K mg) {vs : List V} {H : Hp} {Q : VK} {E : XK} (h : sp_World_blame G vs H Q E) : (t_World_blame G (sp_Node_learn G)) { nx := fun _ H' => Q .non H', rt := Q } (start ["self", "node", "whom", "fact"] vs) H := by
  obtain ⟨H0, g, W, s, i, L, n, m, rfl, hW, hL, hn, hm, e2, hb, q⟩ := h
  have hN := hW.nod i L n hL hn
  obtain ⟨us, hu, hf⟩ := hN.fct
  obtain ⟨y, hy⟩ : ∃ y, n.facts[m]? = some y := ⟨n.facts[m], List.getElem?_eq_getElem hm⟩
  obtain ⟨v, hv, ⟨a, rfl, ha⟩⟩ := paired_at hf hy
  have ef := fact_of hy
  refine ⟨_, rfl, L.a, _, L.dx, _, _, rfl, hN.obj.1, G.cl_Node, G.n_Node_facts, nF_facts, _, rfl, L.lf, us, _, _, rfl, rfl, SqL.of hu.1, atI_nat hv, ?_⟩
  refine ⟨_, rfl, a, _, _, _, rfl, rfl, SqT.of ha, rfl, rfl, _, rfl, ?_⟩
  by_cases c : y.sort = 0
  · refine bT ((vint_eq (j := 0)).mpr c) ?_
    refine ⟨_, rfl, L.a, L.dx, _, rfl, hN.obj.1, nF_no_learn, _, rfl, _, rfl, a, _, _, _, rfl, rfl, SqT.of ha, rfl, ?_⟩
    refine ⟨g, L, i, n, m, ⟨y.num, 1⟩, rfl, hN, hm, by omega, fun H1 h1 m1 => ?_⟩
    have hW1 := hW.node0 m1 hL h1
    have ha1 := m1.tup ha
    obtain ⟨bs, hb1, hb2⟩ := hW1.blm
    refine ⟨_, rfl, W.w, _, W.dx, _, _, rfl, hW1.obj.1, G.cl_World, G.n_World_blamed, wF_blamed, .inl ⟨rfl, bs, SqL.of hb1.1⟩, ?_⟩
    refine ⟨_, rfl, L.a, _, L.dx, _, _, rfl, h1.obj.1, G.cl_Node, G.n_Node_me, nF_me, _, rfl, _, rfl, a, _, _, _, rfl, rfl, SqT.of ha1, rfl, (by show 3 ≤ sizeLine; decide), fun t ht => ?_⟩
    have eb : bs.length = s.blames.length := paired_len hb2
    refine ⟨W.lb, bs, .ref t, rfl, rfl, (hb1.fresh ht).1, Nat.lt_of_le_of_lt (show bs.length ≤ 1000 by omega) (by decide), ?_⟩
    refine q g _ ?_
    have e3 : blameS s i n m = { Ag11.setNode s i (Ag11.learn n m ⟨y.num, 1⟩) with blames := s.blames ++ [⟨i, m, y.num⟩] } := by
      unfold blameS
      rw [ef, if_pos c]
    rw [e3]
    have m2 : Mv (fun t => t = .blamed) g H1 g (upd H1 t (.tup [.int i, .int m, .int y.num])) := Mv.new0 ht
    have m3 : Mv (fun t => t = .blamed) g (upd H1 t (.tup [.int i, .int m, .int y.num])) g (upd (upd H1 t (.tup [.int i, .int m, .int y.num])) W.lb (.lst (bs ++ [.ref t]))) := Mv.put (hb1.fresh ht) rfl (fun z => z)
    exact hW1.blms (m2.trans m3) (At.put (hb1.fresh ht)) (paired_snoc (paired_mono (fun _ _ => BlameAt.keep (m2.trans m3)) hb2) ⟨t, rfl, m3.tup upd_same⟩)
  · refine bF (Bool.eq_false_iff.mpr fun z => c ((vint_eq (j := 0)).mp z)) ?_
    refine q g H ?_
    have e3 : blameS s i n m = s := by
      unfold blameS
      rw [ef, if_neg c]
    rw [e3]
    exact hW
theorem ok_World_blame (G : Pg K mg) : FnOk P w K mg base CX0 2 G.f_World_blame G.fd_World_blame ["self", "node", "whom"] (sp_World_blame G) := by
  refine G.F_World_blame.ok sc_World_blame (fun vs H Q E h => len_World_blame h) (fun cdv A outer s H vs Q E hr h => ⟨t_World_blame G (sp_Node_learn G), bd_World_blame G (ok_Node_learn G) hr, rd_World_blame G h⟩)
/-! ### call_for_help -/
theorem send_nil {s : Ag11.State} (h : s.letters.length ≤ 100) : Ag11.send s [] = s := by
  unfold Ag11.send Ag11.ROOM
  rw [List.append_nil, List.take_of_length_le h]
theorem send_more {s : Ag11.State} {l : List Ag11.Letter} {x : Ag11.Letter} : Ag11.send (Ag11.send s l) [x] = Ag11.send s (l ++ [x]) := by
  unfold Ag11.send Ag11.ROOM
  show { s with letters := (((s.letters ++ l).take 100) ++ [x]).take 100 } = { s with letters := (s.letters ++ (l ++ [x])).take 100 }
  rw [← List.append_assoc]
  by_cases c : (s.letters ++ l).length ≤ 100
  · rw [List.take_of_length_le c]
  · have e : ((s.letters ++ l).take 100).length = 100 := by
      rw [List.length_take]
      omega
    rw [List.take_append_of_le_length (by omega), List.take_append_of_le_length (l₁ := s.letters ++ l) (by omega), List.take_of_length_le (by omega)]
theorem send_len {s : Ag11.State} {l : List Ag11.Letter} : (Ag11.send s l).letters.length ≤ 100 := by
  show ((s.letters ++ l).take 100).length ≤ 100
  rw [List.length_take]
  omega
def helpL (N i : Nat) (n : Ag11.Node) (p : Ag11.Probe) : List Ag11.Letter := ((List.range N).filter fun (k : Nat) => k != i && k != p.whom).map fun (k : Nat) => Ag11.letter n 2 k i p.num p.whom
theorem helpL_yes {N i : Nat} {n : Ag11.Node} {p : Ag11.Probe} (h1 : N ≠ i) (h2 : N ≠ p.whom) : helpL (N + 1) i n p = helpL N i n p ++ [Ag11.letter n 2 N i p.num p.whom] := by
  unfold helpL
  rw [List.range_succ, List.filter_append, List.map_append, List.filter_cons, if_pos (by simp [h1, h2])]
  rfl
theorem helpL_no {N i : Nat} {n : Ag11.Node} {p : Ag11.Probe} (h : N = i ∨ N = p.whom) : helpL (N + 1) i n p = helpL N i n p := by
  unfold helpL
  rw [List.range_succ, List.filter_append, List.map_append, List.filter_cons, if_neg (by simp; intro a; rcases h with h | h; exact absurd h a; exact h)]
  simp
def sp_World_call_for_help (G : Pg K mg) : Sp := fun vs H Q _ => ∃ (H0 : Hp) (g : Gh) (W : WL) (s : Ag11.State) (i : Nat) (L : NL) (n : Ag11.Node) (p : Ag11.Probe), vs = [.ref W.w, .ref L.a, L.q] ∧ WorldAt G H0 g H W s ∧ W.Ls[i]? = some L ∧ s.nodes[i]? = some n ∧
  n.probe = some p ∧ s.letters.length ≤ 100 ∧ s.nodes.length ≤ 5 ∧ ∀ (g' : Gh) (H' : Hp), WorldAt G H0 g' H' W (Ag11.send s (helpL s.nodes.length i n p)) → Q .non H'
theorem len_World_call_for_help {vs : List V} {Q : VK} {E : XK} (h : sp_World_call_for_help G vs H Q E) : vs.length = (["self", "node", "asking"] : List Str).length := by
  obtain ⟨H0, g, W, s, i, L, n, p, rfl, _⟩ := h
  rfl
theorem rd_World_call_for_help (G : Pg K mg) {vs : List V} {H : Hp} {Q : VK} {E : XK} (h : sp_World_call_for_help G vs H Q E) : (t_World_call_for_help G (sp_World_send G)) { nx := fun _ H' => Q .non H', rt := Q } (start ["self", "node", "asking", "k"] vs) H := by
  obtain ⟨H0, g, W, s, i, L, n, p, rfl, hW, hL, hn, hp, hz, h5, q⟩ := h
  obtain ⟨ns, hns, el⟩ : ∃ ns : List V, At g H W.ln .nodes (.lst ns) ∧ ns.length = s.nodes.length := ⟨_, hW.nds, by rw [List.length_map, hW.len]⟩
  refine ⟨_, rfl, W.w, _, W.dx, _, _, rfl, hW.obj.1, G.cl_World, G.n_World_nodes, wF_nodes, W.ln, ns, rfl, .inl (SqL.of hns.1), (ns.length : Int), rfl, by omega, by omega,
    for_range (lo := 0) (n := ns.length) (fun k σ H' => ∃ v1 g', σ = [some (.ref W.w), some (.ref L.a), some L.q, v1] ∧ WorldAt G H0 g' H' W (Ag11.send s (helpL k i n p))) ⟨_, g, rfl, ?_⟩ ?_ ?_⟩
  · rw [show helpL 0 i n p = [] from rfl, send_nil hz]
    exact hW
  · rintro k σ H' hk ⟨v1, g', rfl, hW'⟩
    rw [Int.zero_add]
    have hN : NodeAt G g' H' L i n := hW'.nod i L n hL hn
    have hA := hN.ask
    rw [hp] at hA
    obtain ⟨a, dx, ea, ha⟩ := hA
    refine ⟨_, rfl, _, rfl, L.a, _, L.dx, _, _, rfl, hN.obj.1, G.cl_Node, G.n_Node_me, nF_me, rfl, _, rfl, ?_⟩
    by_cases c : k = i
    · refine bF (Bool.eq_false_iff.mpr fun z => vint_ne.mp z c) ?_
      refine bF rfl ?_
      refine ⟨_, g', rfl, ?_⟩
      rw [helpL_no (.inl c)]
      exact hW'
    · refine bT (vint_ne.mpr c) ?_
      refine ⟨_, rfl, _, rfl, a, _, dx, _, _, ea, ha.1, G.cl_Asking, G.n_Asking_whom, aF_whom, rfl, _, rfl, ?_⟩
      by_cases d : k = p.whom
      · refine bF (Bool.eq_false_iff.mpr fun z => vint_ne.mp z d) ?_
        refine ⟨_, g', rfl, ?_⟩
        rw [helpL_no (.inr d)]
        exact hW'
      · refine bT (vint_ne.mpr d) ?_
        refine ⟨_, rfl, W.w, W.dx, _, rfl, hW'.obj.1, wF_no_send, _, rfl, _, rfl, _, rfl, a, _, dx, _, _, ea, ha.1, G.cl_Asking, G.n_Asking_number, aF_number, _, rfl, a, _, dx, _, _, ea, ha.1, G.cl_Asking, G.n_Asking_whom, aF_whom, ?_⟩
        refine ⟨H0, g', W, _, i, L, n, 2, k, p.num, p.whom, rfl, hW', hL, hn, send_len, fun g2 H2 hW2 => ?_⟩
        refine ⟨_, g2, rfl, ?_⟩
        rw [helpL_yes c d, ← send_more]
        exact hW2
  · rintro σ H' ⟨v1, g', rfl, hW'⟩
    rw [el] at hW'
    exact q g' H' hW'
theorem ok_World_call_for_help (G : Pg K mg) : FnOk P w K mg base CX0 4 G.f_World_call_for_help G.fd_World_call_for_help ["self", "node", "asking"] (sp_World_call_for_help G) := by
  refine G.F_World_call_for_help.ok sc_World_call_for_help (fun vs H Q E h => len_World_call_for_help h) (fun cdv A outer s H vs Q E hr h => ⟨t_World_call_for_help G (sp_World_send G), bd_World_call_for_help G (ok_World_send G) hr, rd_World_call_for_help G h⟩)
end

end Wt
namespace Wt
open PySem PySem.Spec PyProof.Rows L2
section
variable {P : Program} {w : World} {K : PySem.W.Frag} {mg : Str → Option Value} {base : Heap}
variable {G : Pg K mg} {T : Tg → Prop} {g g' : Gh} {H H' H0 : Hp} {W : WL} {s : Ag11.State}
theorem NodeAt.asks {L : NL} {i : Nat} {n : Ag11.Node} {a dx : Addr} {p p' : Ag11.Probe} (h : NodeAt G g H L i n) (ha : At g H a (.ask i) (.ins G.CAsking dx (aFp p))) (hq : L.q = .ref a) :
    NodeAt G g (upd H a (.ins G.CAsking dx (aFp p'))) L i { n with probe := some p' } ∧ Mv (grp i) g H g (upd H a (.ins G.CAsking dx (aFp p'))) := by
  have m : Mv (fun t => t = .ask i) g H g (upd H a (.ins G.CAsking dx (aFp p'))) := Mv.put ha rfl (fun z => z)
  refine ⟨⟨h.obj.keep m (by intro z; cases z), ?_, h.snc.keep m (by intro z; cases z), ⟨a, dx, hq, At.put ha⟩, ?_⟩, m.mono ?_⟩
  · obtain ⟨vs, h1, h2⟩ := h.fct
    exact ⟨vs, h1.keep m (by intro z; cases z), h2.keep m⟩
  · obtain ⟨kvs, h1, h2⟩ := h.dct
    exact ⟨kvs, h1.keep m (by intro z; cases z), paired_mono (fun _ _ => RelAt.keep m) h2⟩
  · intro t z
    rw [z]
    rfl
/-! ### wait_on -/
def helped (n : Ag11.Node) (p : Ag11.Probe) : Ag11.Node := { n with probe := some { p with helped := true } }
def unasked (n : Ag11.Node) : Ag11.Node := { n with probe := none }
def waitS (s : Ag11.State) (i : Nat) (n : Ag11.Node) (p : Ag11.Probe) : Ag11.State :=
  if p.helped = false ∧ p.since + s.wait ≤ n.clock then Ag11.send (Ag11.setNode s i (helped n p)) (helpL s.nodes.length i (helped n p) p)
  else if p.since + 2 * s.wait ≤ n.clock then blameS (Ag11.setNode s i (unasked n)) i (unasked n) p.whom else s
def sp_World_wait_on (G : Pg K mg) : Sp := fun vs H Q _ => ∃ (H0 : Hp) (g : Gh) (W : WL) (s : Ag11.State) (i : Nat) (L : NL) (n : Ag11.Node) (p : Ag11.Probe), vs = [.ref W.w, .ref L.a] ∧ WorldAt G H0 g H W s ∧ W.Ls[i]? = some L ∧ s.nodes[i]? = some n ∧
  n.probe = some p ∧ s.letters.length ≤ 100 ∧ s.nodes.length ≤ 5 ∧ s.wait ≤ 20 ∧ s.blames.length ≤ 1000 ∧ p.whom < n.facts.length ∧ n.since.length = n.facts.length ∧
  ∀ (g' : Gh) (H' : Hp) (W' : WL) (L' : NL), W'.w = W.w → W'.Ls[i]? = some L' → L'.a = L.a → WorldAt G H0 g' H' W' (waitS s i n p) → Q .non H'
theorem len_World_wait_on {vs : List V} {Q : VK} {E : XK} (h : sp_World_wait_on G vs H Q E) : vs.length = (["self", "node"] : List Str).length := by
  obtain ⟨H0, g, W, s, i, L, n, p, rfl, _⟩ := h
  rfl
theorem get_set {α : Type} {l : List α} {i : Nat} {x y : α} (h : l[i]? = some x) : (l.set i y)[i]? = some y := by
  rw [List.getElem?_set, if_pos rfl, if_pos (List.getElem?_eq_some_iff.mp h).1]
theorem rd_World_wait_on (G : Pg K mg) {vs : List V} {H : Hp} {Q : VK} {E : XK} (h : sp_World_wait_on G vs H Q E) : (t_World_wait_on G (sp_Node_has_passed G) (sp_World_call_for_help G) (sp_World_blame G)) { nx := fun _ H' => Q .non H', rt := Q } (start ["self", "node", "asking"] vs) H := by
  obtain ⟨H0, g, W, s, i, L, n, p, rfl, hW, hL, hn, hp, hz, h5, hw, hb, hm, e2, q⟩ := h
  have hN := hW.nod i L n hL hn
  have hi : i < s.nodes.length := (List.getElem?_eq_some_iff.mp hn).1
  have hA := hN.ask
  rw [hp] at hA
  obtain ⟨a, dx, ea, ha⟩ := hA
  -- the second test, the asking over
  have second : ¬ (p.helped = false ∧ p.since + s.wait ≤ n.clock) → tIfS (tB (tMeth G.CNode "has_passed" (sp_Node_has_passed G) [] E0 (tVar 1) (tCons (tFld K (tVar 2) "since") (tCons (tOp qMul (tC (.int 2)) (tFld K (tVar 0) "wait")) tNil))))
      (tSeq (sFld K (tVar 1) (tC .non) "asking") (tDrop (tMeth G.CWorld "blame" (sp_World_blame G) [] E0 (tVar 0) (tCons (tVar 1) (tCons (tFld K (tVar 2) "whom") tNil))))) (tNext)
      { nx := fun _ H' => Q .non H', rt := Q } [some (.ref W.w), some (.ref L.a), some L.q] H := by
    intro no
    refine ⟨_, rfl, L.a, L.dx, _, rfl, hN.obj.1, nF_no_has_passed, _, rfl, a, _, dx, _, _, ea, ha.1, G.cl_Asking, G.n_Asking_since, aF_since, _, rfl, W.w, _, W.dx, _, _, rfl, hW.obj.1, G.cl_World, G.n_World_wait, wF_wait, _, _, rfl, rfl, .inl ⟨by decide, by decide⟩, ?_⟩
    refine ⟨g, L, i, n, p.since, 2 * s.wait, ?_, hN, ?_⟩
    · have e : (2 : Int) * (s.wait : Int) = ((2 * s.wait : Nat) : Int) := by omega
      show [V.ref L.a, V.int p.since, V.int ((2 : Int) * (s.wait : Int))] = _
      rw [e]
    refine ⟨_, rfl, ?_⟩
    by_cases c : p.since + 2 * s.wait ≤ n.clock
    · refine dT c ?_
      refine ⟨_, rfl, L.a, _, L.dx, _, rfl, hN.obj.1, G.cl_Node, G.n_Node_asking, (by show 9 < 1000; decide), ?_⟩
      rw [nF_put_asking]
      obtain ⟨r1, m1⟩ := hN.objq (unasked n) .non rfl rfl rfl rfl
      have hW1 := hW.node (L' := { L with q := .non }) m1 hL rfl r1
      have ha1 := ha.past (o2 := .ins G.CNode L.dx (nFn i (unasked n) { L with q := .non })) hN.obj (by intro z; cases z)
      refine ⟨_, rfl, W.w, W.dx, _, rfl, hW1.obj.1, wF_no_blame, _, rfl, _, rfl, a, _, dx, _, _, ea, ha1.1, G.cl_Asking, G.n_Asking_whom, aF_whom, ?_⟩
      refine ⟨H0, g, { W with Ls := W.Ls.set i { L with q := .non } }, _, i, { L with q := .non }, unasked n, p.whom, rfl, hW1, get_set hL, setNode_at hi, hm, e2, hb, fun g2 H2 hW2 => ?_⟩
      refine q g2 H2 { W with Ls := W.Ls.set i { L with q := .non } } { L with q := .non } rfl (get_set hL) rfl ?_
      unfold waitS
      rw [if_neg no, if_pos c]
      exact hW2
    · refine dF c ?_
      refine q g H W L rfl hL rfl ?_
      unfold waitS
      rw [if_neg no, if_neg c]
      exact hW
  refine ⟨_, rfl, L.a, _, L.dx, _, _, rfl, hN.obj.1, G.cl_Node, G.n_Node_asking, nF_asking, ?_⟩
  refine ⟨_, rfl, a, _, dx, _, _, ea, ha.1, G.cl_Asking, G.n_Asking_helped, aF_helped, _, rfl, ?_⟩
  cases c : p.helped with
  | true =>
    refine second fun z => ?_
    rw [c] at z
    cases z.1
  | false =>
    refine bT rfl ?_
    refine ⟨_, rfl, L.a, L.dx, _, rfl, hN.obj.1, nF_no_has_passed, _, rfl, a, _, dx, _, _, ea, ha.1, G.cl_Asking, G.n_Asking_since, aF_since, _, rfl, W.w, _, W.dx, _, _, rfl, hW.obj.1, G.cl_World, G.n_World_wait, wF_wait, ?_⟩
    refine ⟨g, L, i, n, p.since, s.wait, rfl, hN, ?_⟩
    refine ⟨_, rfl, ?_⟩
    by_cases d : p.since + s.wait ≤ n.clock
    · refine dT d ?_
      refine ⟨_, rfl, a, _, dx, _, ea, ha.1, G.cl_Asking, G.n_Asking_helped, (by show 4 < 1000; decide), ?_⟩
      rw [aF_put_helped]
      obtain ⟨r1, m1⟩ := hN.asks (p' := { p with helped := true }) ha ea
      have hW1 := hW.node0 m1 hL r1
      refine ⟨_, rfl, W.w, W.dx, _, rfl, hW1.obj.1, wF_no_call_for_help, _, rfl, _, rfl, ?_⟩
      refine ⟨H0, g, W, _, i, L, helped n p, { p with helped := true }, rfl, hW1, hL, setNode_at hi, rfl, hz, by rw [setNode_len]; exact h5, fun g2 H2 hW2 => ?_⟩
      refine q g2 H2 W L rfl hL rfl ?_
      unfold waitS
      rw [if_pos ⟨c, d⟩]
      rw [setNode_len] at hW2
      exact hW2
    · refine dF d ?_
      exact second fun z => d z.2
theorem ok_World_wait_on (G : Pg K mg) : FnOk P w K mg base CX0 5 G.f_World_wait_on G.fd_World_wait_on ["self", "node"] (sp_World_wait_on G) := by
  refine G.F_World_wait_on.ok sc_World_wait_on (fun vs H Q E h => len_World_wait_on h) (fun cdv A outer s H vs Q E hr h => ⟨t_World_wait_on G (sp_Node_has_passed G) (sp_World_call_for_help G) (sp_World_blame G), bd_World_wait_on G (ok_Node_has_passed G) (ok_World_call_for_help G) (ok_World_blame G) hr, rd_World_wait_on G h⟩)
/-! ### what a call on a world gives back -/
def Ret (G : Pg K mg) (H0 : Hp) (w : Addr) (r : Ag11.Abs × List Int) (Q : VK) : Prop := ∀ (g' : Gh) (H' : Hp) (W' : WL) (s' : Ag11.State) (z : Int), r = (some s', [z]) → W'.w = w → WorldAt G H0 g' H' W' s' → Q (.int z) H'
theorem maps_at {L : NL} {i : Nat} {Ls : List NL} (h : Ls[i]? = some L) : (Ls.map fun L => V.ref L.a)[i]? = some (.ref L.a) := by
  rw [List.getElem?_map, h]
  rfl
/-! ### tick -/
def tickS (s : Ag11.State) (i : Nat) (n : Ag11.Node) : Ag11.State := match n.probe with
  | none => Ag11.setNode s i n
  | some p => waitS (Ag11.setNode s i n) i n p
def ticked (n : Ag11.Node) : Ag11.Node := { n with clock := n.clock + 1 }
def tickB (s : Ag11.State) (i : Nat) (n : Ag11.Node) : Ag11.State := match n.probe with
  | none => Ag11.setNode s i n
  | some p => if p.helped = false ∧ p.since + s.wait ≤ n.clock then
      Ag11.send (Ag11.setNode s i (helped n p)) ((Ag11.helpers s i p.whom).map fun (k : Nat) => Ag11.letter (helped n p) 2 k i p.num p.whom)
    else if p.since + 2 * s.wait ≤ n.clock then
      (if (Ag11.fact (unasked n) p.whom).sort = 0 then { Ag11.setNode s i (Ag11.learn (unasked n) p.whom ⟨(Ag11.fact (unasked n) p.whom).num, 1⟩) with blames := s.blames ++ [⟨i, p.whom, (Ag11.fact (unasked n) p.whom).num⟩] } else Ag11.setNode s i (unasked n))
    else Ag11.setNode s i n
theorem tick_b {i : Nat} : Ag11.tick s i = tickB s i (giveK s.patience (ticked (Ag11.node s i)) (Ag11.count s)) := rfl
theorem tickB_is {i : Nat} {m : Ag11.Node} : tickB s i m = tickS s i m := by
  unfold tickB tickS
  cases hp : m.probe with
  | none => rfl
  | some p =>
    show (if p.helped = false ∧ p.since + s.wait ≤ m.clock then _ else if p.since + 2 * s.wait ≤ m.clock then _ else _) = (if p.helped = false ∧ p.since + s.wait ≤ m.clock then _ else if p.since + 2 * s.wait ≤ m.clock then _ else _)
    rw [setNode_two, setNode_two, setNode_len]
    unfold blameS
    rw [setNode_two]
    rfl
theorem tick_is {i : Nat} {n : Ag11.Node} (hn : s.nodes[i]? = some n) : Ag11.tick s i = tickS s i (giveK s.patience (ticked n) s.nodes.length) := by
  rw [tick_b, node_of hn, tickB_is]
  rfl
theorem give_keeps {p : Nat} {n : Ag11.Node} {k : Nat} : (giveK p n k).clock = n.clock ∧ (giveK p n k).probe = n.probe ∧ (giveK p n k).count = n.count ∧ (giveK p n k).relays = n.relays := by
  induction k with
  | zero => exact ⟨rfl, rfl, rfl, rfl⟩
  | succ k ih =>
    rw [giveK_more]
    unfold giveStep
    split
    · exact ih
    · exact ih
theorem waitS_at {i : Nat} {n : Ag11.Node} {p : Ag11.Probe} (hn : s.nodes[i]? = some n) : ∃ n', (waitS s i n p).nodes[i]? = some n' ∧ n'.clock = n.clock := by
  have hi : i < s.nodes.length := (List.getElem?_eq_some_iff.mp hn).1
  unfold waitS
  split
  · exact ⟨_, setNode_at (n := helped n p) hi, rfl⟩
  · split
    · unfold blameS
      split
      · exact ⟨Ag11.learn (unasked n) p.whom ⟨(Ag11.fact (unasked n) p.whom).num, 1⟩, setNode_at (s := Ag11.setNode s i (unasked n)) (by rw [setNode_len]; exact hi), rfl⟩
      · exact ⟨_, setNode_at (n := unasked n) hi, rfl⟩
    · exact ⟨n, hn, rfl⟩
def sp_World_tick (G : Pg K mg) : Sp := fun vs H Q _ => ∃ (H0 : Hp) (g : Gh) (W : WL) (s : Ag11.State) (k t : Nat), vs = [.ref W.w, .int k] ∧ WorldAt G H0 g H W s ∧ Good t s ∧ t ≤ 1000 ∧ Ret G H0 W.w (Ag11.step (some s) (.tick k)) Q
theorem len_World_tick {vs : List V} {Q : VK} {E : XK} (h : sp_World_tick G vs H Q E) : vs.length = (["self", "k"] : List Str).length := by
  obtain ⟨H0, g, W, s, k, t, rfl, _⟩ := h
  rfl
theorem rd_World_tick (G : Pg K mg) {vs : List V} {H : Hp} {Q : VK} {E : XK} (h : sp_World_tick G vs H Q E) : (t_World_tick G (sp_Node_give_up G) (sp_World_has_node G) (sp_World_wait_on G)) { nx := fun _ H' => Q .non H', rt := Q } (start ["self", "k", "node"] vs) H := by
  obtain ⟨H0, g, W, s, k, t, rfl, hW, hG, ht, q⟩ := h
  refine ⟨_, rfl, W.w, W.dx, _, rfl, hW.obj.1, wF_no_has_node, _, rfl, ?_⟩
  refine ⟨H0, g, W, s, k, rfl, hW, ?_⟩
  refine ⟨_, rfl, ?_⟩
  by_cases c : k < s.nodes.length
  · refine nF' c ?_
    obtain ⟨n, hn⟩ := node_in c
    obtain ⟨L, hL, hN⟩ := hW.at hn
    obtain ⟨ng, _⟩ := hG.nd k n hn
    refine ⟨_, rfl, W.w, _, W.dx, _, _, rfl, hW.obj.1, G.cl_World, G.n_World_nodes, wF_nodes, _, rfl, W.ln, _, _, _, rfl, rfl, SqL.of hW.nds.1, atI_nat (maps_at hL), ?_⟩
    refine ⟨_, rfl, L.a, _, L.dx, _, _, rfl, hN.obj.1, G.cl_Node, G.n_Node_runs, nF_runs, _, rfl, ?_⟩
    cases hu : n.up with
    | false =>
      refine q g H W s (-3) ?_ rfl hW
      show (if Ag11.count s ≤ k then _ else if (Ag11.node s k).up = false then _ else _) = _
      rw [node_of hn, if_neg (show ¬ Ag11.count s ≤ k by unfold Ag11.count; omega), if_pos hu]
    | true =>
      refine bF rfl ?_
      refine ⟨_, rfl, L.a, _, L.dx, _, _, rfl, hN.obj.1, G.cl_Node, G.n_Node_clock, nF_clock, _, _, rfl, rfl, L.dx, _, hN.obj.1, (by show 9 < 1000; decide), ?_⟩
      rw [nF_put_clock]
      obtain ⟨r1, m1⟩ := hN.scal (ticked n) rfl rfl rfl rfl
      have hW1 := hW.node0 m1 hL r1
      refine ⟨_, rfl, L.a, L.dx, _, rfl, r1.obj.1, nF_no_give_up, _, rfl, W.w, _, W.dx, _, _, rfl, hW1.obj.1, G.cl_World, G.n_World_patience, wF_patience, ?_⟩
      refine ⟨g, L, k, ticked n, s.patience, rfl, r1, ng.sl.trans ng.fl.symm, by show n.facts.length ≤ 5; rw [ng.fl]; exact hG.hi, fun H2 r2 m2 => ?_⟩
      have ef : (ticked n).facts.length = s.nodes.length := ng.fl
      rw [ef] at r2
      have hW2 := hW.node0 (m1.trans m2) hL r2
      obtain ⟨gc, gp, _, _⟩ := give_keeps (p := s.patience) (n := ticked n) (k := s.nodes.length)
      obtain ⟨gf, gs⟩ := giveK_len (p := s.patience) (n := ticked n) (k := s.nodes.length)
      have hstep : Ag11.step (some s) (.tick k) = (some (tickS s k (giveK s.patience (ticked n) s.nodes.length)), [((n.clock + 1 : Nat) : Int)]) := by
        show (if Ag11.count s ≤ k then _ else if (Ag11.node s k).up = false then _ else (some (Ag11.tick s k), [(((Ag11.node s k).clock + 1 : Nat) : Int)])) = _
        rw [node_of hn, if_neg (show ¬ Ag11.count s ≤ k by unfold Ag11.count; omega), if_neg (by rw [hu]; intro z; cases z), tick_is hn]
      rw [hstep] at q
      generalize hm2 : giveK s.patience (ticked n) s.nodes.length = m at r2 hW2 gc gp gf gs q
      refine ⟨_, rfl, L.a, _, L.dx, _, _, rfl, r2.obj.1, G.cl_Node, G.n_Node_asking, nF_asking, rfl, _, rfl, ?_⟩
      have hA := r2.ask
      cases hp : m.probe with
      | none =>
        rw [hp] at hA
        refine bF (by rw [show L.q = .non from hA]; rfl) ?_
        refine ⟨_, rfl, L.a, _, L.dx, _, _, rfl, r2.obj.1, G.cl_Node, G.n_Node_clock, nF_clock, ?_⟩
        rw [gc]
        refine q g H2 W _ _ ?_ rfl hW2
        unfold tickS
        rw [hp]
        rfl
      | some p =>
        rw [hp] at hA
        obtain ⟨a, dx, ea, _⟩ := hA
        refine bT (by rw [ea]; rfl) ?_
        refine ⟨_, rfl, W.w, W.dx, _, rfl, hW2.obj.1, wF_no_wait_on, _, rfl, ?_⟩
        have pw : p.whom < s.nodes.length := ng.pw p (by rw [← hp]; exact gp.symm)
        refine ⟨H0, g, W, _, k, L, m, p, rfl, hW2, hL, setNode_at c, hp, hG.ll, by rw [setNode_len]; exact hG.hi, hG.wt, Nat.le_trans hG.bl ht, by rw [gf, ef]; exact pw, by rw [gf, gs]; exact ng.sl.trans ng.fl.symm, fun g3 H3 W3 L3 w3 l3 a3 hW3 => ?_⟩
        obtain ⟨n3, hn3, c3⟩ := waitS_at (p := p) (setNode_at (s := s) (n := m) c)
        have hN3 := hW3.nod k L3 n3 l3 hn3
        have ho3 := hN3.obj.1
        rw [a3] at ho3
        refine ⟨_, rfl, L.a, _, L3.dx, _, _, rfl, ho3, G.cl_Node, G.n_Node_clock, nF_clock, ?_⟩
        rw [c3, gc]
        refine q g3 H3 W3 _ _ ?_ w3 hW3
        unfold tickS
        rw [hp]
        rfl
  · refine nT c ?_
    refine q g H W s (-1) ?_ rfl hW
    show (if Ag11.count s ≤ k then _ else _) = _
    rw [if_pos (show Ag11.count s ≤ k by unfold Ag11.count; omega)]
theorem ok_World_tick (G : Pg K mg) : FnOk P w K mg base CX0 6 G.f_World_tick G.fd_World_tick ["self", "k"] (sp_World_tick G) := by
  refine G.F_World_tick.ok sc_World_tick (fun vs H Q E h => len_World_tick h) (fun cdv A outer s H vs Q E hr h => ⟨t_World_tick G (sp_Node_give_up G) (sp_World_has_node G) (sp_World_wait_on G), bd_World_tick G (ok_Node_give_up G) (ok_World_has_node G) (ok_World_wait_on G) hr, rd_World_tick G h⟩)
end

end Wt
namespace Wt
open PySem PySem.Spec PyProof.Rows L2
section
variable {P : Program} {w : World} {K : PySem.W.Frag} {mg : Str → Option Value} {base : Heap}
variable {G : Pg K mg} {T : Tg → Prop} {g g' : Gh} {H H' H0 : Hp} {W : WL} {s : Ag11.State}
/-! ### whom it asks for others -/
theorem rel_find {num : Nat} : ∀ {kvs : List (Key × V)} {rs : List Ag11.Relay}, Paired (RelAt H) kvs rs →
    (valV kvs (Sum.inl (num : Int)) = none ∧ rs.find? (fun (r : Ag11.Relay) => r.num == num) = none) ∨
    ∃ r t, valV kvs (Sum.inl (num : Int)) = some (.ref t) ∧ rs.find? (fun (r : Ag11.Relay) => r.num == num) = some r ∧ H t = some (.tup [.int r.for_, .int r.theirs])
  | _, _, .nil => .inl ⟨rfl, rfl⟩
  | (k, v) :: kvs, r :: rs, .cons h hs => by
    obtain ⟨e, t, e2, ht⟩ := h
    have e : k = Sum.inl (r.num : Int) := e
    have e2 : v = .ref t := e2
    subst e e2
    by_cases c : r.num = num
    · refine .inr ⟨r, t, ?_, ?_, ht⟩
      · rw [valV_pos (by rw [c])]
      · rw [List.find?_cons, beq_iff_eq.mpr c]
    · have d : ¬ (Sum.inl (r.num : Int) : Key) = Sum.inl (num : Int) := fun z => c (by
        injection z with z
        omega)
      rw [valV_neg (p := (Sum.inl (r.num : Int), V.ref t)) d, List.find?_cons, beq_eq_false_iff_ne.mpr c]
      exact rel_find hs
theorem rel_drop {num : Nat} : ∀ {kvs : List (Key × V)} {rs : List Ag11.Relay}, Paired (RelAt H) kvs rs → Paired (RelAt H) (dropK kvs (Sum.inl (num : Int))) (rs.filter fun (y : Ag11.Relay) => y.num != num)
  | _, _, .nil => .nil
  | (k, v) :: kvs, r :: rs, .cons h hs => by
    have e : k = Sum.inl (r.num : Int) := h.1
    by_cases c : r.num = num
    · rw [dropK_pos (p := (k, v)) (by show k = _; rw [e, c]), List.filter_cons, if_neg (by simp [c])]
      exact rel_drop hs
    · have d : ¬ k = Sum.inl (num : Int) := fun z => c (by
        rw [e] at z
        injection z with z
        omega)
      rw [dropK_neg (p := (k, v)) d, List.filter_cons, if_pos (by simp [c])]
      exact .cons h (rel_drop hs)
theorem rel_none {num : Nat} : ∀ {kvs : List (Key × V)} {rs : List Ag11.Relay}, Paired (RelAt H) kvs rs → (∀ r ∈ rs, r.num < num) → valV kvs (Sum.inl (num : Int)) = none
  | _, _, .nil, _ => rfl
  | (k, v) :: kvs, r :: rs, .cons h hs, hr => by
    have e : k = Sum.inl (r.num : Int) := h.1
    have c := hr r (List.mem_cons_self)
    have d : ¬ k = Sum.inl (num : Int) := fun z => by
      rw [e] at z
      injection z with z
      omega
    rw [valV_neg (p := (k, v)) d]
    exact rel_none hs fun r' h' => hr r' (List.mem_cons_of_mem _ h')
theorem NodeAt.dicts {L : NL} {i : Nat} {n : Ag11.Node} {kvs kvs' : List (Key × V)} {rs : List Ag11.Relay} (h : NodeAt G g H L i n) (hd : At g H L.ld (.dict i) (.dK kvs)) (hr : Paired (RelAt H) kvs' rs) :
    NodeAt G g (upd H L.ld (.dK kvs')) L i { n with relays := rs } ∧ Mv (grp i) g H g (upd H L.ld (.dK kvs')) := by
  have m : Mv (fun t => t = .dict i) g H g (upd H L.ld (.dK kvs')) := Mv.put hd rfl (fun z => z)
  refine ⟨⟨h.obj.keep m (by intro z; cases z), ?_, h.snc.keep m (by intro z; cases z), ?_, ⟨kvs', At.put hd, paired_mono (fun _ _ => RelAt.keep m) hr⟩⟩, m.mono ?_⟩
  · obtain ⟨vs, h1, h2⟩ := h.fct
    exact ⟨vs, h1.keep m (by intro z; cases z), h2.keep m⟩
  · have d : ∀ p, AskAt G g H i L.q p → AskAt G g (upd H L.ld (.dK kvs')) i L.q p := by
      intro p hp
      cases p with
      | none => exact hp
      | some p =>
        obtain ⟨a, dx, e, hp⟩ := hp
        exact ⟨a, dx, e, hp.keep m (by intro z; cases z)⟩
    exact d _ h.ask
  · intro t z
    rw [z]
    rfl
/-! ### get_here -/
def hereS (s : Ag11.State) (i : Nat) (n : Ag11.Node) (num : Nat) : Ag11.State × Int := match n.relays.find? fun (r : Ag11.Relay) => r.num == num with
  | some r => (Ag11.send (Ag11.setNode s i { n with relays := n.relays.filter fun (y : Ag11.Relay) => y.num != num }) [Ag11.letter n 1 r.for_ i r.theirs 0], 3)
  | none => match n.probe with
    | none => (s, 5)
    | some p => if p.num = num then (Ag11.setNode s i (unasked n), 2) else (s, 5)
def sp_World_get_here (G : Pg K mg) : Sp := fun vs H Q _ => ∃ (H0 : Hp) (g : Gh) (W : WL) (s : Ag11.State) (i : Nat) (L : NL) (n : Ag11.Node) (num : Nat), vs = [.ref W.w, .ref L.a, .int num] ∧ WorldAt G H0 g H W s ∧ W.Ls[i]? = some L ∧ s.nodes[i]? = some n ∧
  s.letters.length ≤ 100 ∧ ∀ (g' : Gh) (H' : Hp) (W' : WL), W'.w = W.w → WorldAt G H0 g' H' W' (hereS s i n num).1 → Q (.int (hereS s i n num).2) H'
theorem len_World_get_here {vs : List V} {Q : VK} {E : XK} (h : sp_World_get_here G vs H Q E) : vs.length = (["self", "node", "number"] : List Str).length := by
  obtain ⟨H0, g, W, s, i, L, n, num, rfl, _⟩ := h
  rfl
theorem rd_World_get_here (G : Pg K mg) {vs : List V} {H : Hp} {Q : VK} {E : XK} (h : sp_World_get_here G vs H Q E) : (t_World_get_here G (sp_World_send G)) { nx := fun _ H' => Q .non H', rt := Q } (start ["self", "node", "number", "errand"] vs) H := by
  obtain ⟨H0, g, W, s, i, L, n, num, rfl, hW, hL, hn, hz, q⟩ := h
  have hN := hW.nod i L n hL hn
  have hi : i < s.nodes.length := (List.getElem?_eq_some_iff.mp hn).1
  obtain ⟨kvs, hd, hr⟩ := hN.dct
  refine ⟨_, rfl, L.a, _, L.dx, _, _, rfl, hN.obj.1, G.cl_Node, G.n_Node_for_others, nF_for_others, L.ld, rfl, .inl ⟨kvs, .inl hd.1⟩, _, rfl, kvs, Sum.inl (num : Int), hd.1, rfl, fun v hv => ?_, fun hv => ?_⟩
  · rcases rel_find (num := num) hr with ⟨e1, _⟩ | ⟨r, t, e1, e2, ht⟩
    · rw [e1] at hv
      cases hv
    rw [e1] at hv
    cases hv
    obtain ⟨r1, m1⟩ := hN.dicts hd (rel_drop (num := num) hr)
    have hW1 := hW.node0 m1 hL r1
    have ht1 := m1.tup ht
    refine ⟨_, rfl, rfl, _, rfl, ?_⟩
    refine bT rfl ?_
    refine ⟨_, rfl, W.w, W.dx, _, rfl, hW1.obj.1, wF_no_send, _, rfl, _, rfl, t, _, _, _, rfl, rfl, SqT.of ht1, rfl, _, rfl, t, _, _, _, rfl, rfl, SqT.of ht1, rfl, ?_⟩
    refine ⟨H0, g, W, _, i, L, _, 1, r.for_, r.theirs, 0, rfl, hW1, hL, setNode_at hi, hz, fun g2 H2 hW2 => ?_⟩
    have e3 : hereS s i n num = (Ag11.send (Ag11.setNode s i { n with relays := n.relays.filter fun (y : Ag11.Relay) => y.num != num }) [Ag11.letter n 1 r.for_ i r.theirs 0], 3) := by
      unfold hereS
      rw [e2]
    rw [e3] at q
    exact q g2 H2 W rfl hW2
  · rcases rel_find (num := num) hr with ⟨_, e2⟩ | ⟨r, t, e1, _, _⟩
    rotate_left
    · rw [e1] at hv
      cases hv
    refine ⟨_, rfl, rfl, _, rfl, ?_⟩
    refine bF rfl ?_
    have hA := hN.ask
    refine ⟨_, rfl, L.a, _, L.dx, _, _, rfl, hN.obj.1, G.cl_Node, G.n_Node_asking, nF_asking, rfl, _, rfl, ?_⟩
    cases hp : n.probe with
    | none =>
      rw [hp] at hA
      refine bF (by rw [show L.q = .non from hA]; rfl) ?_
      refine bF rfl ?_
      have e3 : hereS s i n num = (s, 5) := by
        unfold hereS
        rw [e2, hp]
      rw [e3] at q
      exact q g H W rfl hW
    | some p =>
      rw [hp] at hA
      obtain ⟨a, dx, ea, ha⟩ := hA
      refine bT (by rw [ea]; rfl) ?_
      refine ⟨_, rfl, L.a, _, L.dx, _, _, rfl, hN.obj.1, G.cl_Node, G.n_Node_asking, nF_asking, a, _, dx, _, _, ea, ha.1, G.cl_Asking, G.n_Asking_number, aF_number, _, rfl, rfl, _, rfl, ?_⟩
      by_cases c : p.num = num
      · refine bT (vint_eq.mpr c) ?_
        refine ⟨_, rfl, L.a, _, L.dx, _, rfl, hN.obj.1, G.cl_Node, G.n_Node_asking, (by show 9 < 1000; decide), ?_⟩
        rw [nF_put_asking]
        obtain ⟨r1, m1⟩ := hN.objq (unasked n) .non rfl rfl rfl rfl
        have hW1 := hW.node (L' := { L with q := .non }) m1 hL rfl r1
        have e3 : hereS s i n num = (Ag11.setNode s i (unasked n), 2) := by
          unfold hereS
          rw [e2, hp]
          exact if_pos c
        rw [e3] at q
        exact q g _ { W with Ls := W.Ls.set i { L with q := .non } } rfl hW1
      · refine bF (Bool.eq_false_iff.mpr fun z => c (vint_eq.mp z)) ?_
        have e3 : hereS s i n num = (s, 5) := by
          unfold hereS
          rw [e2, hp]
          exact if_neg c
        rw [e3] at q
        exact q g H W rfl hW
theorem ok_World_get_here (G : Pg K mg) : FnOk P w K mg base CX0 4 G.f_World_get_here G.fd_World_get_here ["self", "node", "number"] (sp_World_get_here G) := by
  refine G.F_World_get_here.ok sc_World_get_here (fun vs H Q E h => len_World_get_here h) (fun cdv A outer s H vs Q E hr h => ⟨t_World_get_here G (sp_World_send G), bd_World_get_here G (ok_World_send G) hr, rd_World_get_here G h⟩)
/-! ### ask_for_another -/
def another (n : Ag11.Node) (x : Ag11.Letter) : Ag11.Node := { n with count := n.count + 1, relays := n.relays ++ [⟨n.count + 1, x.from_, x.num⟩] }
def counted (n : Ag11.Node) : Ag11.Node := { n with count := n.count + 1 }
def sp_World_ask_for_another (G : Pg K mg) : Sp := fun vs H Q _ => ∃ (H0 : Hp) (g : Gh) (W : WL) (s : Ag11.State) (i : Nat) (L : NL) (n : Ag11.Node) (v : V) (x : Ag11.Letter), vs = [.ref W.w, .ref L.a, v] ∧ WorldAt G H0 g H W s ∧ W.Ls[i]? = some L ∧ s.nodes[i]? = some n ∧
  LetterAt G g H v x ∧ s.letters.length ≤ 100 ∧ (∀ r ∈ n.relays, r.num ≤ n.count) ∧ n.relays.length ≤ 1000 ∧
  ∀ (g' : Gh) (H' : Hp), WorldAt G H0 g' H' W (Ag11.send (Ag11.setNode s i (another n x)) [Ag11.letter (another n x) 0 x.whom i (n.count + 1) 0]) → Q (.int 4) H'
theorem len_World_ask_for_another {vs : List V} {Q : VK} {E : XK} (h : sp_World_ask_for_another G vs H Q E) : vs.length = (["self", "node", "letter"] : List Str).length := by
  obtain ⟨H0, g, W, s, i, L, n, v, x, rfl, _⟩ := h
  rfl
theorem rd_World_ask_for_another (G : Pg K mg) {vs : List V} {H : Hp} {Q : VK} {E : XK} (h : sp_World_ask_for_another G vs H Q E) : (t_World_ask_for_another G (sp_World_send G)) { nx := fun _ H' => Q .non H', rt := Q } (start ["self", "node", "letter"] vs) H := by
  obtain ⟨H0, g, W, s, i, L, n, v, x, rfl, hW, hL, hn, hX, hz, hr1, hr2, q⟩ := h
  have hN := hW.nod i L n hL hn
  have hi : i < s.nodes.length := (List.getElem?_eq_some_iff.mp hn).1
  refine ⟨_, rfl, L.a, _, L.dx, _, _, rfl, hN.obj.1, G.cl_Node, G.n_Node_asked, nF_asked, _, _, rfl, rfl, L.dx, _, hN.obj.1, (by show 9 < 1000; decide), ?_⟩
  rw [nF_put_asked]
  obtain ⟨r1, m1⟩ := hN.scal (counted n) rfl rfl rfl rfl
  obtain ⟨p, dx, l, us, rfl, hp, hl, hf⟩ := hX.keep m1 (fun z => z)
  refine ⟨_, rfl, p, _, dx, _, _, rfl, hp.1, G.cl_Letter, G.n_Letter_sender, lF_sender, _, rfl, p, _, dx, _, _, rfl, hp.1, G.cl_Letter, G.n_Letter_number, lF_number, (by show 2 ≤ sizeLine; decide), fun t ht => ?_⟩
  have m2 := Mv.new0 (T := grp i) (g := g) (o := .tup [.int x.from_, .int x.num]) ht
  have r2 : NodeAt G g _ L i (counted n) := r1.keep (Mv.new0 (T := fun _ => False) (g := g) (o := .tup [.int x.from_, .int x.num]) ht) (fun _ _ z => z)
  obtain ⟨kvs, hd, hr⟩ := r2.dct
  have hno : valV kvs (Sum.inl ((n.count + 1 : Nat) : Int)) = none := rel_none hr fun r h => Nat.lt_succ_of_le (hr1 r h)
  refine ⟨_, rfl, L.a, _, L.dx, _, _, rfl, r2.obj.1, G.cl_Node, G.n_Node_for_others, nF_for_others, _, rfl, L.a, _, L.dx, _, _, rfl, r2.obj.1, G.cl_Node, G.n_Node_asked, nF_asked, L.ld, _, rfl, DPut.k (k := Sum.inl ((n.count + 1 : Nat) : Int)) hd.1 ?_, ?_⟩
  · have e : kvs.length = n.relays.length := paired_len hr
    exact Nat.lt_of_le_of_lt (show kvs.length ≤ 1000 by omega) (by decide)
  rw [putK_new _ hno]
  have hr3 : Paired (RelAt (upd (upd H L.a (.ins G.CNode L.dx (nFn i (counted n) L))) t (.tup [.int x.from_, .int x.num]))) (kvs ++ [(Sum.inl ((n.count + 1 : Nat) : Int), .ref t)]) (n.relays ++ [⟨n.count + 1, x.from_, x.num⟩]) :=
    paired_snoc hr ⟨rfl, t, rfl, upd_same⟩
  obtain ⟨r3, m3⟩ := r2.dicts hd hr3
  have mm := (m1.trans m2).trans m3
  have hW3 := hW.node0 mm hL r3
  have hp3 := At.keep (t := .imm) (m2.trans m3) (fun z => z) hp
  refine ⟨_, rfl, W.w, W.dx, _, rfl, hW3.obj.1, wF_no_send, _, rfl, _, rfl, p, _, dx, _, _, rfl, hp3.1, G.cl_Letter, G.n_Letter_whom, lF_whom, _, rfl, L.a, _, L.dx, _, _, rfl, r3.obj.1, G.cl_Node, G.n_Node_asked, nF_asked, ?_⟩
  refine ⟨H0, g, W, _, i, L, another n x, 0, x.whom, n.count + 1, 0, rfl, hW3, hL, setNode_at hi, hz, fun g2 H2 hW2 => ?_⟩
  exact q g2 H2 hW2
theorem ok_World_ask_for_another (G : Pg K mg) : FnOk P w K mg base CX0 4 G.f_World_ask_for_another G.fd_World_ask_for_another ["self", "node", "letter"] (sp_World_ask_for_another G) := by
  refine G.F_World_ask_for_another.ok sc_World_ask_for_another (fun vs H Q E h => len_World_ask_for_another h) (fun cdv A outer s H vs Q E hr h => ⟨t_World_ask_for_another G (sp_World_send G), bd_World_ask_for_another G (ok_World_send G) hr, rd_World_ask_for_another G h⟩)
end

end Wt
namespace Wt
open PySem PySem.Spec PyProof.Rows L2
section
variable {P : Program} {w : World} {K : PySem.W.Frag} {mg : Str → Option Value} {base : Heap}
variable {G : Pg K mg} {T : Tg → Prop} {g g' : Gh} {H H' H0 : Hp} {W : WL} {s : Ag11.State}
/-! ### probe -/
def probing (n : Ag11.Node) (j : Nat) : Ag11.Node := { n with count := n.count + 1, probe := some ⟨j, n.count + 1, n.clock, false⟩ }
theorem probe_is {i j : Nat} {n : Ag11.Node} (hn : s.nodes[i]? = some n) : Ag11.probe s i j = Ag11.send (Ag11.setNode s i (probing n j)) [Ag11.letter (probing n j) 0 j i (n.count + 1) 0] := by
  unfold Ag11.probe
  rw [node_of hn]
  rfl
def sp_World_probe (G : Pg K mg) : Sp := fun vs H Q _ => ∃ (H0 : Hp) (g : Gh) (W : WL) (s : Ag11.State) (k j t : Nat), vs = [.ref W.w, .int k, .int j] ∧ WorldAt G H0 g H W s ∧ Good t s ∧ t ≤ 1000 ∧ Ret G H0 W.w (Ag11.step (some s) (.probe k j)) Q
theorem len_World_probe {vs : List V} {Q : VK} {E : XK} (h : sp_World_probe G vs H Q E) : vs.length = (["self", "k", "whom"] : List Str).length := by
  obtain ⟨H0, g, W, s, k, j, t, rfl, _⟩ := h
  rfl
theorem rd_World_probe (G : Pg K mg) {vs : List V} {H : Hp} {Q : VK} {E : XK} (h : sp_World_probe G vs H Q E) : (t_World_probe G (sp_Asking_init G) (sp_World_send G) (sp_World_has_node G)) { nx := fun _ H' => Q .non H', rt := Q } (start ["self", "k", "whom", "node"] vs) H := by
  obtain ⟨H0, g, W, s, k, j, t, rfl, hW, hG, ht, q⟩ := h
  have no : (Ag11.count s ≤ k ∨ (Ag11.count s ≤ j ∨ k = j)) → Q (.int (-1)) H := fun z => by
    refine q g H W s (-1) ?_ rfl hW
    show (if Ag11.count s ≤ k ∨ (Ag11.count s ≤ j ∨ k = j) then _ else _) = _
    rw [if_pos z]
  refine ⟨_, rfl, W.w, W.dx, _, rfl, hW.obj.1, wF_no_has_node, _, rfl, ?_⟩
  refine ⟨H0, g, W, s, k, rfl, hW, ?_⟩
  refine ⟨_, rfl, ?_⟩
  by_cases c : k < s.nodes.length
  · refine nF' c ?_
    refine ⟨_, rfl, W.w, W.dx, _, rfl, hW.obj.1, wF_no_has_node, _, rfl, ?_⟩
    refine ⟨H0, g, W, s, j, rfl, hW, ?_⟩
    refine ⟨_, rfl, ?_⟩
    by_cases d : j < s.nodes.length
    · refine nF' d ?_
      refine ⟨_, rfl, _, rfl, rfl, _, rfl, ?_⟩
      by_cases e : k = j
      · refine bT (vint_eq.mpr e) ?_
        exact no (.inr (.inr e))
      · refine bF (Bool.eq_false_iff.mpr fun z => e (vint_eq.mp z)) ?_
        have yes : ¬ (Ag11.count s ≤ k ∨ (Ag11.count s ≤ j ∨ k = j)) := by
          unfold Ag11.count
          omega
        obtain ⟨n, hn⟩ := node_in c
        obtain ⟨L, hL, hN⟩ := hW.at hn
        refine ⟨_, rfl, W.w, _, W.dx, _, _, rfl, hW.obj.1, G.cl_World, G.n_World_nodes, wF_nodes, _, rfl, W.ln, _, _, _, rfl, rfl, SqL.of hW.nds.1, atI_nat (maps_at hL), ?_⟩
        refine ⟨_, rfl, L.a, _, L.dx, _, _, rfl, hN.obj.1, G.cl_Node, G.n_Node_runs, nF_runs, _, rfl, ?_⟩
        cases hu : n.up with
        | false =>
          refine q g H W s (-3) ?_ rfl hW
          show (if Ag11.count s ≤ k ∨ (Ag11.count s ≤ j ∨ k = j) then _ else if (Ag11.node s k).up = false then _ else _) = _
          rw [node_of hn, if_neg yes, if_pos hu]
        | true =>
          refine bF rfl ?_
          have hstep : Ag11.step (some s) (.probe k j) = (some (Ag11.send (Ag11.setNode s k (probing n j)) [Ag11.letter (probing n j) 0 j k (n.count + 1) 0]), [((n.count + 1 : Nat) : Int)]) := by
            show (if Ag11.count s ≤ k ∨ (Ag11.count s ≤ j ∨ k = j) then _ else if (Ag11.node s k).up = false then _ else (some (Ag11.probe s k j), [(((Ag11.node s k).count + 1 : Nat) : Int)])) = _
            rw [node_of hn, if_neg yes, if_neg (by rw [hu]; intro z; cases z), probe_is hn]
          rw [hstep] at q
          refine ⟨_, rfl, L.a, _, L.dx, _, _, rfl, hN.obj.1, G.cl_Node, G.n_Node_asked, nF_asked, _, _, rfl, rfl, L.dx, _, hN.obj.1, (by show 9 < 1000; decide), ?_⟩
          rw [nF_put_asked]
          obtain ⟨r1, m1⟩ := hN.scal (counted n) rfl rfl rfl rfl
          refine ⟨_, rfl, _, rfl, L.a, _, L.dx, _, _, rfl, r1.obj.1, G.cl_Node, G.n_Node_asked, nF_asked, _, rfl, L.a, _, L.dx, _, _, rfl, r1.obj.1, G.cl_Node, G.n_Node_clock, nF_clock, ?_⟩
          intro x dx nx ndx nex
          refine ⟨x, dx, _, _, _, rfl, upd_same, rfl, ?_⟩
          rw [upd_upd]
          have m2 : Mv (fun _ => False) g (upd H L.a (.ins G.CNode L.dx (nFn k (counted n) L))) (tag g dx .imm) (upd (upd H L.a (.ins G.CNode L.dx (nFn k (counted n) L))) dx (.own x)) := Mv.new .imm ndx
          have nx2 : upd (upd H L.a (.ins G.CNode L.dx (nFn k (counted n) L))) dx (.own x) x = none := by
            rw [upd_ne nex.symm]
            exact nx
          have m3 : Mv (fun _ => False) (tag g dx .imm) (upd (upd H L.a (.ins G.CNode L.dx (nFn k (counted n) L))) dx (.own x)) (tag (tag g dx .imm) x (.ask k)) (upd (upd (upd H L.a (.ins G.CNode L.dx (nFn k (counted n) L))) dx (.own x)) x (.ins G.CAsking dx (aFp ⟨j, n.count + 1, n.clock, false⟩))) := Mv.new (.ask k) nx2
          have m23 := m2.trans m3
          have r3 := r1.keep m23 (fun _ _ z => z)
          refine ⟨_, rfl, L.a, _, L.dx, _, rfl, r3.obj.1, G.cl_Node, G.n_Node_asking, (by show 9 < 1000; decide), ?_⟩
          rw [nF_put_asking]
          obtain ⟨r4, m4⟩ := r3.objq (probing n j) (.ref x) rfl rfl rfl ⟨x, dx, rfl, upd_same, tag_same⟩
          have mm := (m1.trans (m23.mono (T' := grp k) (fun _ z => z.elim))).trans m4
          have hW4 := hW.node (L' := { L with q := .ref x }) mm hL rfl r4
          refine ⟨_, rfl, W.w, W.dx, _, rfl, hW4.obj.1, wF_no_send, _, rfl, _, rfl, _, rfl, L.a, _, L.dx, _, _, rfl, r4.obj.1, G.cl_Node, G.n_Node_asked, nF_asked, ?_⟩
          refine ⟨H0, _, { W with Ls := W.Ls.set k { L with q := .ref x } }, _, k, { L with q := .ref x }, probing n j, 0, j, n.count + 1, 0, rfl, hW4, get_set hL, setNode_at c, hG.ll, fun g5 H5 hW5 => ?_⟩
          have r5 := hW5.nod k { L with q := .ref x } (probing n j) (get_set hL) (setNode_at c)
          refine ⟨_, rfl, L.a, _, L.dx, _, _, rfl, r5.obj.1, G.cl_Node, G.n_Node_asked, nF_asked, ?_⟩
          exact q g5 H5 { W with Ls := W.Ls.set k { L with q := .ref x } } _ _ rfl rfl hW5
    · refine nT d ?_
      exact no (.inr (.inl (by unfold Ag11.count; omega)))
  · refine nT c ?_
    exact no (.inl (by unfold Ag11.count; omega))
theorem ok_World_probe (G : Pg K mg) : FnOk P w K mg base CX0 4 G.f_World_probe G.fd_World_probe ["self", "k", "whom"] (sp_World_probe G) := by
  refine G.F_World_probe.ok sc_World_probe (fun vs H Q E h => len_World_probe h) (fun cdv A outer s H vs Q E hr h => ⟨t_World_probe G (sp_Asking_init G) (sp_World_send G) (sp_World_has_node G), bd_World_probe G (ok_Asking_init G) (ok_World_send G) (ok_World_has_node G) hr, rd_World_probe G h⟩)
/-! ### hand_over -/
theorem hearSelf_keeps {n : Ag11.Node} {i : Nat} {x : Ag11.Fact} : (hearSelf n i x).up = n.up ∧ (hearSelf n i x).count = n.count ∧ (hearSelf n i x).clock = n.clock ∧ (hearSelf n i x).probe = n.probe ∧ (hearSelf n i x).relays = n.relays := by
  unfold hearSelf
  split
  · exact ⟨rfl, rfl, rfl, rfl, rfl⟩
  · exact ⟨rfl, rfl, rfl, rfl, rfl⟩
theorem hearStep_keeps {n : Ag11.Node} {i : Nat} {x : Ag11.Fact × Nat} : (hearStep i n x).up = n.up ∧ (hearStep i n x).count = n.count ∧ (hearStep i n x).clock = n.clock ∧ (hearStep i n x).probe = n.probe ∧ (hearStep i n x).relays = n.relays := by
  unfold hearStep
  split
  · exact hearSelf_keeps
  · split
    · exact ⟨rfl, rfl, rfl, rfl, rfl⟩
    · exact ⟨rfl, rfl, rfl, rfl, rfl⟩
theorem hearFold_keeps {i : Nat} : ∀ (l : List (Ag11.Fact × Nat)) (n : Ag11.Node), (l.foldl (hearStep i) n).up = n.up ∧ (l.foldl (hearStep i) n).count = n.count ∧ (l.foldl (hearStep i) n).clock = n.clock ∧ (l.foldl (hearStep i) n).probe = n.probe ∧ (l.foldl (hearStep i) n).relays = n.relays
  | [], _ => ⟨rfl, rfl, rfl, rfl, rfl⟩
  | x :: r, n => by
    obtain ⟨a1, a2, a3, a4, a5⟩ := hearFold_keeps r (hearStep i n x)
    obtain ⟨b1, b2, b3, b4, b5⟩ := hearStep_keeps (n := n) (i := i) (x := x)
    exact ⟨a1.trans b1, a2.trans b2, a3.trans b3, a4.trans b4, a5.trans b5⟩
theorem hear_keeps {n : Ag11.Node} {i : Nat} {l : List Ag11.Fact} : (Ag11.hear n i l).up = n.up ∧ (Ag11.hear n i l).count = n.count ∧ (Ag11.hear n i l).clock = n.clock ∧ (Ag11.hear n i l).probe = n.probe ∧ (Ag11.hear n i l).relays = n.relays := hearFold_keeps _ _
theorem hear_len {n : Ag11.Node} {i : Nat} {l : List Ag11.Fact} : (Ag11.hear n i l).facts.length = n.facts.length ∧ (Ag11.hear n i l).since.length = n.since.length := fold_len (fun _ _ => hearStep_len) _ _
def handS (s : Ag11.State) (x : Ag11.Letter) (n : Ag11.Node) : Ag11.State × List Int :=
  if n.up = false then (s, [0]) else
  if x.kind = 0 then (Ag11.send (Ag11.setNode s x.to_ (Ag11.hear n x.to_ x.facts)) [Ag11.letter (Ag11.hear n x.to_ x.facts) 1 x.from_ x.to_ x.num 0], [1])
  else if x.kind = 1 then ((hereS (Ag11.setNode s x.to_ (Ag11.hear n x.to_ x.facts)) x.to_ (Ag11.hear n x.to_ x.facts) x.num).1, [(hereS (Ag11.setNode s x.to_ (Ag11.hear n x.to_ x.facts)) x.to_ (Ag11.hear n x.to_ x.facts) x.num).2])
  else (Ag11.send (Ag11.setNode s x.to_ (another (Ag11.hear n x.to_ x.facts) x)) [Ag11.letter (another (Ag11.hear n x.to_ x.facts) x) 0 x.whom x.to_ ((Ag11.hear n x.to_ x.facts).count + 1) 0], [4])
def handK (s : Ag11.State) (x : Ag11.Letter) (k : Nat) (n : Ag11.Node) : Ag11.State × List Int := match k with
  | 0 => (Ag11.send (Ag11.setNode s x.to_ n) [Ag11.letter n 1 x.from_ x.to_ x.num 0], [1])
  | 2 => (Ag11.send (Ag11.setNode s x.to_ (another n x)) [Ag11.letter (another n x) 0 x.whom x.to_ (another n x).count 0], [4])
  | _ => match n.relays.find? fun (r : Ag11.Relay) => r.num == x.num with
    | some r => (Ag11.send (Ag11.setNode s x.to_ { n with relays := n.relays.filter fun (y : Ag11.Relay) => y.num != x.num }) [Ag11.letter n 1 r.for_ x.to_ r.theirs 0], [3])
    | none => match n.probe with
      | none => (Ag11.setNode s x.to_ n, [5])
      | some p => if p.num = x.num then (Ag11.setNode s x.to_ (unasked n), [2]) else (Ag11.setNode s x.to_ n, [5])
theorem hand_b {x : Ag11.Letter} : Ag11.hand s x = if (Ag11.node s x.to_).up = false then (s, [0]) else handK s x x.kind (Ag11.hear (Ag11.node s x.to_) x.to_ x.facts) := rfl
theorem hand_is {x : Ag11.Letter} {n : Ag11.Node} (hn : s.nodes[x.to_]? = some n) (hk : x.kind ≤ 2) : Ag11.hand s x = handS s x n := by
  rw [hand_b, node_of hn]
  unfold handS
  by_cases c : n.up = false
  · rw [if_pos c, if_pos c]
  · rw [if_neg c, if_neg c]
    generalize Ag11.hear n x.to_ x.facts = m
    obtain h | h | h : x.kind = 0 ∨ x.kind = 1 ∨ x.kind = 2 := by omega
    · rw [h]
      rfl
    · rw [h]
      show (match m.relays.find? fun (r : Ag11.Relay) => r.num == x.num with
        | some r => _
        | none => _) = ((hereS (Ag11.setNode s x.to_ m) x.to_ m x.num).1, [(hereS (Ag11.setNode s x.to_ m) x.to_ m x.num).2])
      unfold hereS
      cases m.relays.find? fun (r : Ag11.Relay) => r.num == x.num with
      | some r =>
        show _ = (Ag11.send (Ag11.setNode (Ag11.setNode s x.to_ m) x.to_ _) _, _)
        rw [setNode_two]
      | none =>
        cases m.probe with
        | none => rfl
        | some p =>
          show (if p.num = x.num then _ else _) = ((if p.num = x.num then (Ag11.setNode (Ag11.setNode s x.to_ m) x.to_ (unasked m), (2 : Int)) else _).1, [(if p.num = x.num then (Ag11.setNode (Ag11.setNode s x.to_ m) x.to_ (unasked m), (2 : Int)) else _).2])
          by_cases d : p.num = x.num
          · rw [if_pos d, if_pos d, setNode_two]
          · rw [if_neg d, if_neg d]
    · rw [h]
      rfl
def sp_World_hand_over (G : Pg K mg) : Sp := fun vs H Q _ => ∃ (H0 : Hp) (g : Gh) (W : WL) (s : Ag11.State) (v : V) (x : Ag11.Letter) (t : Nat), vs = [.ref W.w, v] ∧ WorldAt G H0 g H W s ∧ LetterAt G g H v x ∧ LGood s.nodes.length x ∧ Good t s ∧ t ≤ 1000 ∧
  ∀ (g' : Gh) (H' : Hp) (W' : WL) (s' : Ag11.State) (z : Int), Ag11.hand s x = (s', [z]) → W'.w = W.w → WorldAt G H0 g' H' W' s' → Q (.int z) H'
theorem len_World_hand_over {vs : List V} {Q : VK} {E : XK} (h : sp_World_hand_over G vs H Q E) : vs.length = (["self", "letter"] : List Str).length := by
  obtain ⟨H0, g, W, s, v, x, t, rfl, _⟩ := h
  rfl
theorem rd_World_hand_over (G : Pg K mg) {vs : List V} {H : Hp} {Q : VK} {E : XK} (h : sp_World_hand_over G vs H Q E) : (t_World_hand_over G (sp_Node_hear G) (sp_World_ask_for_another G) (sp_World_send G) (sp_World_get_here G)) { nx := fun _ H' => Q .non H', rt := Q } (start ["self", "letter", "node"] vs) H := by
  obtain ⟨H0, g, W, s, v, x, t, rfl, hW, hX, lg, hG, ht, q⟩ := h
  obtain ⟨p, dx, l, us, rfl, hp, hl, hf⟩ := id hX
  obtain ⟨n, hn⟩ := node_in lg.to_
  obtain ⟨L, hL, hN⟩ := hW.at hn
  obtain ⟨ng, nt⟩ := hG.nd _ n hn
  rw [hand_is hn lg.kd] at q
  refine ⟨_, rfl, W.w, _, W.dx, _, _, rfl, hW.obj.1, G.cl_World, G.n_World_nodes, wF_nodes, _, rfl, p, _, dx, _, _, rfl, hp.1, G.cl_Letter, G.n_Letter_to, lF_to, W.ln, _, _, _, rfl, rfl, SqL.of hW.nds.1, atI_nat (maps_at hL), ?_⟩
  refine ⟨_, rfl, L.a, _, L.dx, _, _, rfl, hN.obj.1, G.cl_Node, G.n_Node_runs, nF_runs, _, rfl, ?_⟩
  cases hu : n.up with
  | false =>
    refine q g H W s 0 ?_ rfl hW
    unfold handS
    rw [if_pos hu]
  | true =>
    refine bF rfl ?_
    have nu : ¬ n.up = false := by rw [hu]; intro z; cases z
    refine ⟨_, rfl, L.a, L.dx, _, rfl, hN.obj.1, nF_no_hear, _, rfl, p, _, dx, _, _, rfl, hp.1, G.cl_Letter, G.n_Letter_facts, lF_facts, ?_⟩
    refine ⟨g, L, x.to_, n, l, us, x.facts, rfl, hN, hl, hf, lg.fl.trans ng.fl.symm, ng.sl.trans ng.fl.symm, by rw [ng.fl]; exact lg.to_, by rw [ng.fl]; exact hG.hi, fun H1 r1 m1 => ?_⟩
    have hW1 := hW.node0 m1 hL r1
    have hX1 : LetterAt G g H1 (.ref p) x := hX.keep m1 (fun z => z)
    have hp1 := At.keep (t := .imm) m1 (fun z => z) hp
    obtain ⟨k1, k2, k3, k4, k5⟩ := hear_keeps (n := n) (i := x.to_) (l := x.facts)
    refine ⟨_, rfl, p, _, dx, _, _, rfl, hp1.1, G.cl_Letter, G.n_Letter_kind, lF_kind, rfl, _, rfl, ?_⟩
    by_cases c0 : x.kind = 0
    · refine bT ((vint_eq (j := 0)).mpr c0) ?_
      refine ⟨_, rfl, W.w, W.dx, _, rfl, hW1.obj.1, wF_no_send, _, rfl, _, rfl, p, _, dx, _, _, rfl, hp1.1, G.cl_Letter, G.n_Letter_sender, lF_sender, _, rfl, p, _, dx, _, _, rfl, hp1.1, G.cl_Letter, G.n_Letter_number, lF_number, ?_⟩
      refine ⟨H0, g, W, _, x.to_, L, _, 1, x.from_, x.num, 0, rfl, hW1, hL, setNode_at lg.to_, hG.ll, fun g2 H2 hW2 => ?_⟩
      refine q g2 H2 W _ 1 ?_ rfl hW2
      unfold handS
      rw [if_neg nu, if_pos c0]
    · refine bF (Bool.eq_false_iff.mpr fun z => c0 ((vint_eq (j := 0)).mp z)) ?_
      refine ⟨_, rfl, p, _, dx, _, _, rfl, hp1.1, G.cl_Letter, G.n_Letter_kind, lF_kind, rfl, _, rfl, ?_⟩
      by_cases c1 : x.kind = 1
      · refine bT ((vint_eq (j := 1)).mpr c1) ?_
        refine ⟨_, rfl, W.w, W.dx, _, rfl, hW1.obj.1, wF_no_get_here, _, rfl, _, rfl, p, _, dx, _, _, rfl, hp1.1, G.cl_Letter, G.n_Letter_number, lF_number, ?_⟩
        refine ⟨H0, g, W, _, x.to_, L, _, x.num, rfl, hW1, hL, setNode_at lg.to_, hG.ll, fun g2 H2 W2 w2 hW2 => ?_⟩
        refine q g2 H2 W2 _ _ ?_ w2 hW2
        unfold handS
        rw [if_neg nu, if_neg c0, if_pos c1]
      · refine bF (Bool.eq_false_iff.mpr fun z => c1 ((vint_eq (j := 1)).mp z)) ?_
        refine ⟨_, rfl, W.w, W.dx, _, rfl, hW1.obj.1, wF_no_ask_for_another, _, rfl, _, rfl, ?_⟩
        refine ⟨H0, g, W, _, x.to_, L, _, .ref p, x, rfl, hW1, hL, setNode_at lg.to_, hX1, hG.ll, fun r hr => ?_, ?_, fun g2 H2 hW2 => ?_⟩
        · rw [k5] at hr
          rw [k2]
          exact (ng.rl r hr).1
        · rw [k5]
          exact Nat.le_trans (Nat.le_trans ng.rc nt) ht
        · refine q g2 H2 W _ 4 ?_ rfl hW2
          unfold handS
          rw [if_neg nu, if_neg c0, if_neg c1, setNode_two]
theorem ok_World_hand_over (G : Pg K mg) : FnOk P w K mg base CX0 5 G.f_World_hand_over G.fd_World_hand_over ["self", "letter"] (sp_World_hand_over G) := by
  refine G.F_World_hand_over.ok sc_World_hand_over (fun vs H Q E h => len_World_hand_over h) (fun cdv A outer s H vs Q E hr h => ⟨t_World_hand_over G (sp_Node_hear G) (sp_World_ask_for_another G) (sp_World_send G) (sp_World_get_here G), bd_World_hand_over G (ok_Node_hear G) (ok_World_ask_for_another G) (ok_World_send G) (ok_World_get_here G) hr, rd_World_hand_over G h⟩)
/-! ### take, keep, lose -/
theorem good_erase {t k : Nat} (h : Good t s) : Good t { s with letters := s.letters.eraseIdx k } := by
  obtain ⟨h1, h2, h3, h4, h5, h6, h7⟩ := h
  refine ⟨h1, h2, h3, h4, fun x hx => h5 x (List.mem_of_mem_eraseIdx hx), ?_, h7⟩
  exact Nat.le_trans (List.length_eraseIdx_le _ _) h6
theorem row_pop {k : Nat} {rs : List V} (hW : WorldAt G H0 g H W s) (hr : At g H W.lr .row (.lst rs)) (hl : Paired (LetterAt G g H) rs s.letters) :
    WorldAt G H0 g (upd H W.lr (.lst (rs.eraseIdx k))) W { s with letters := s.letters.eraseIdx k } ∧ Mv (fun t => t = .row) g H g (upd H W.lr (.lst (rs.eraseIdx k))) := by
  have m : Mv (fun t => t = .row) g H g (upd H W.lr (.lst (rs.eraseIdx k))) := Mv.put hr rfl (fun z => z)
  exact ⟨hW.rows m (At.put hr) (paired_erase k (paired_mono (fun _ _ => LetterAt.keep m (by intro z; cases z)) hl)), m⟩
theorem seq_nat {k n : Nat} (h : k < n) : seqIndex? (k : Int) n = some k := (ixN_seq (Evl.ixN_nat h)).1
def sp_World_take (G : Pg K mg) : Sp := fun vs H Q _ => ∃ (H0 : Hp) (g : Gh) (W : WL) (s : Ag11.State) (k t : Nat), vs = [.ref W.w, .int k] ∧ WorldAt G H0 g H W s ∧ Good t s ∧ t ≤ 1000 ∧ Ret G H0 W.w (Ag11.step (some s) (.take k)) Q
theorem len_World_take {vs : List V} {Q : VK} {E : XK} (h : sp_World_take G vs H Q E) : vs.length = (["self", "k"] : List Str).length := by
  obtain ⟨H0, g, W, s, k, t, rfl, _⟩ := h
  rfl
theorem rd_World_take (G : Pg K mg) {vs : List V} {H : Hp} {Q : VK} {E : XK} (h : sp_World_take G vs H Q E) : (t_World_take G (sp_World_hand_over G) (sp_World_has_letter G)) { nx := fun _ H' => Q .non H', rt := Q } (start ["self", "k", "letter"] vs) H := by
  obtain ⟨H0, g, W, s, k, t, rfl, hW, hG, ht, q⟩ := h
  refine ⟨_, rfl, W.w, W.dx, _, rfl, hW.obj.1, wF_no_has_letter, _, rfl, ?_⟩
  refine ⟨H0, g, W, s, k, rfl, hW, ?_⟩
  refine ⟨_, rfl, ?_⟩
  by_cases c : k < s.letters.length
  · refine nF' c ?_
    obtain ⟨rs, hr, hl⟩ := hW.row
    have hx : s.letters[k]? = some s.letters[k] := List.getElem?_eq_getElem c
    obtain ⟨v, hv, hX⟩ := paired_at hl hx
    have er := paired_len hl
    have kb := hG.ll
    refine ⟨_, rfl, W.w, _, W.dx, _, _, rfl, hW.obj.1, G.cl_World, G.n_World_row, wF_row, .inl ⟨rfl, rs, SqL.of hr.1⟩, _, rfl, W.lr, rs, _, k, v, rfl, rfl, hr.1, by omega, by omega, seq_nat (by omega), hv, ?_⟩
    obtain ⟨hW1, m1⟩ := row_pop (k := k) hW hr hl
    refine ⟨_, rfl, W.w, W.dx, _, rfl, hW1.obj.1, wF_no_hand_over, _, rfl, ?_⟩
    refine ⟨H0, g, W, _, v, s.letters[k], t, rfl, hW1, hX.keep m1 (by intro z; cases z), hG.lt _ (List.getElem_mem c), good_erase hG, ht, fun g2 H2 W2 s2 z e w2 hW2 => ?_⟩
    refine q g2 H2 W2 s2 z ?_ w2 hW2
    show (match s.letters[k]? with
      | none => _
      | some x => _) = _
    rw [hx]
    show (some (Ag11.hand { s with letters := s.letters.eraseIdx k } s.letters[k]).1, (Ag11.hand { s with letters := s.letters.eraseIdx k } s.letters[k]).2) = _
    rw [e]
  · refine nT c ?_
    refine q g H W s (-1) ?_ rfl hW
    show (match s.letters[k]? with
      | none => _
      | some x => _) = _
    rw [List.getElem?_eq_none_iff.mpr (by omega)]
theorem ok_World_take (G : Pg K mg) : FnOk P w K mg base CX0 6 G.f_World_take G.fd_World_take ["self", "k"] (sp_World_take G) := by
  refine G.F_World_take.ok sc_World_take (fun vs H Q E h => len_World_take h) (fun cdv A outer s H vs Q E hr h => ⟨t_World_take G (sp_World_hand_over G) (sp_World_has_letter G), bd_World_take G (ok_World_hand_over G) (ok_World_has_letter G) hr, rd_World_take G h⟩)
def sp_World_keep (G : Pg K mg) : Sp := fun vs H Q _ => ∃ (H0 : Hp) (g : Gh) (W : WL) (s : Ag11.State) (k t : Nat), vs = [.ref W.w, .int k] ∧ WorldAt G H0 g H W s ∧ Good t s ∧ t ≤ 1000 ∧ Ret G H0 W.w (Ag11.step (some s) (.keep k)) Q
theorem len_World_keep {vs : List V} {Q : VK} {E : XK} (h : sp_World_keep G vs H Q E) : vs.length = (["self", "k"] : List Str).length := by
  obtain ⟨H0, g, W, s, k, t, rfl, _⟩ := h
  rfl
theorem rd_World_keep (G : Pg K mg) {vs : List V} {H : Hp} {Q : VK} {E : XK} (h : sp_World_keep G vs H Q E) : (t_World_keep G (sp_World_hand_over G) (sp_World_has_letter G)) { nx := fun _ H' => Q .non H', rt := Q } (start ["self", "k"] vs) H := by
  obtain ⟨H0, g, W, s, k, t, rfl, hW, hG, ht, q⟩ := h
  refine ⟨_, rfl, W.w, W.dx, _, rfl, hW.obj.1, wF_no_has_letter, _, rfl, ?_⟩
  refine ⟨H0, g, W, s, k, rfl, hW, ?_⟩
  refine ⟨_, rfl, ?_⟩
  by_cases c : k < s.letters.length
  · refine nF' c ?_
    obtain ⟨rs, hr, hl⟩ := hW.row
    have hx : s.letters[k]? = some s.letters[k] := List.getElem?_eq_getElem c
    obtain ⟨v, hv, hX⟩ := paired_at hl hx
    refine ⟨_, rfl, W.w, W.dx, _, rfl, hW.obj.1, wF_no_hand_over, _, rfl, W.w, _, W.dx, _, _, rfl, hW.obj.1, G.cl_World, G.n_World_row, wF_row, _, rfl, W.lr, rs, _, v, rfl, rfl, SqL.of hr.1, atI_nat hv, ?_⟩
    refine ⟨H0, g, W, s, v, s.letters[k], t, rfl, hW, hX, hG.lt _ (List.getElem_mem c), hG, ht, fun g2 H2 W2 s2 z e w2 hW2 => ?_⟩
    refine q g2 H2 W2 s2 z ?_ w2 hW2
    show (match s.letters[k]? with
      | none => _
      | some x => _) = _
    rw [hx]
    show (some (Ag11.hand s s.letters[k]).1, (Ag11.hand s s.letters[k]).2) = _
    rw [e]
  · refine nT c ?_
    refine q g H W s (-1) ?_ rfl hW
    show (match s.letters[k]? with
      | none => _
      | some x => _) = _
    rw [List.getElem?_eq_none_iff.mpr (by omega)]
theorem ok_World_keep (G : Pg K mg) : FnOk P w K mg base CX0 6 G.f_World_keep G.fd_World_keep ["self", "k"] (sp_World_keep G) := by
  refine G.F_World_keep.ok sc_World_keep (fun vs H Q E h => len_World_keep h) (fun cdv A outer s H vs Q E hr h => ⟨t_World_keep G (sp_World_hand_over G) (sp_World_has_letter G), bd_World_keep G (ok_World_hand_over G) (ok_World_has_letter G) hr, rd_World_keep G h⟩)
def sp_World_lose (G : Pg K mg) : Sp := fun vs H Q _ => ∃ (H0 : Hp) (g : Gh) (W : WL) (s : Ag11.State) (k t : Nat), vs = [.ref W.w, .int k] ∧ WorldAt G H0 g H W s ∧ Good t s ∧ t ≤ 1000 ∧ Ret G H0 W.w (Ag11.step (some s) (.lose k)) Q
theorem len_World_lose {vs : List V} {Q : VK} {E : XK} (h : sp_World_lose G vs H Q E) : vs.length = (["self", "k"] : List Str).length := by
  obtain ⟨H0, g, W, s, k, t, rfl, _⟩ := h
  rfl
theorem rd_World_lose (G : Pg K mg) {vs : List V} {H : Hp} {Q : VK} {E : XK} (h : sp_World_lose G vs H Q E) : (t_World_lose G (sp_World_has_letter G)) { nx := fun _ H' => Q .non H', rt := Q } (start ["self", "k"] vs) H := by
  obtain ⟨H0, g, W, s, k, t, rfl, hW, hG, ht, q⟩ := h
  refine ⟨_, rfl, W.w, W.dx, _, rfl, hW.obj.1, wF_no_has_letter, _, rfl, ?_⟩
  refine ⟨H0, g, W, s, k, rfl, hW, ?_⟩
  refine ⟨_, rfl, ?_⟩
  by_cases c : k < s.letters.length
  · refine nF' c ?_
    obtain ⟨rs, hr, hl⟩ := hW.row
    have hx : s.letters[k]? = some s.letters[k] := List.getElem?_eq_getElem c
    obtain ⟨v, hv, hX⟩ := paired_at hl hx
    have er := paired_len hl
    have kb := hG.ll
    refine ⟨_, rfl, W.w, _, W.dx, _, _, rfl, hW.obj.1, G.cl_World, G.n_World_row, wF_row, .inl ⟨rfl, rs, SqL.of hr.1⟩, _, rfl, W.lr, rs, _, k, v, rfl, rfl, hr.1, by omega, by omega, seq_nat (by omega), hv, ?_⟩
    obtain ⟨hW1, m1⟩ := row_pop (k := k) hW hr hl
    refine q g _ W _ 0 ?_ rfl hW1
    show (if s.letters.length ≤ k then _ else _) = _
    rw [if_neg (by omega)]
  · refine nT c ?_
    refine q g H W s (-1) ?_ rfl hW
    show (if s.letters.length ≤ k then _ else _) = _
    rw [if_pos (by omega)]
theorem ok_World_lose (G : Pg K mg) : FnOk P w K mg base CX0 2 G.f_World_lose G.fd_World_lose ["self", "k"] (sp_World_lose G) := by
  refine G.F_World_lose.ok sc_World_lose (fun vs H Q E h => len_World_lose h) (fun cdv A outer s H vs Q E hr h => ⟨t_World_lose G (sp_World_has_letter G), bd_World_lose G (ok_World_has_letter G) hr, rd_World_lose G h⟩)
end

end Wt
namespace Wt
open PySem PySem.Spec PyProof.Rows L2
/-! ### what holds of every state stays so (pure) -/
section
variable {s : Ag11.State} {t N i : Nat} {n : Ag11.Node}
theorem NGood.same {n' : Ag11.Node} (h : NGood N n) (h1 : n'.facts.length = n.facts.length) (h2 : n'.since.length = n.since.length) (h3 : n'.probe = n.probe) (h4 : n'.relays = n.relays) (h5 : n'.count = n.count) : NGood N n' :=
  ⟨h1.trans h.fl, h2.trans h.sl, fun p e => h.pw p (h3 ▸ e), fun r e => by rw [h5]; exact h.rl r (h4 ▸ e), by rw [h4, h5]; exact h.rc, by rw [h4]; exact h.rn⟩
theorem NGood.learn {k : Nat} {f : Ag11.Fact} (h : NGood N n) : NGood N (Ag11.learn n k f) := h.same learn_len.1 learn_len.2 rfl rfl rfl
theorem NGood.unasked (h : NGood N n) : NGood N (unasked n) := ⟨h.fl, h.sl, fun p e => (by cases e), h.rl, h.rc, h.rn⟩
theorem NGood.asks {p : Ag11.Probe} (h : NGood N n) (hp : p.whom < N) : NGood N { n with probe := some p } := ⟨h.fl, h.sl, fun q e => by cases e; exact hp, h.rl, h.rc, h.rn⟩
theorem NGood.helped {p : Ag11.Probe} (h : NGood N n) (hp : p.whom < N) : NGood N (helped n p) := h.asks (p := { p with helped := true }) hp
theorem NGood.hear {l : List Ag11.Fact} (h : NGood N n) : NGood N (Ag11.hear n i l) := h.same hear_len.1 hear_len.2 hear_keeps.2.2.2.1 hear_keeps.2.2.2.2 hear_keeps.2.1
theorem NGood.give {p k : Nat} (h : NGood N n) : NGood N (giveK p (ticked n) k) :=
  (show NGood N (ticked n) from ⟨h.fl, h.sl, h.pw, h.rl, h.rc, h.rn⟩).same giveK_len.1 giveK_len.2 give_keeps.2.1 give_keeps.2.2.2 give_keeps.2.2.1
theorem NGood.probing {j : Nat} (h : NGood N n) (hj : j < N) : NGood N (probing n j) :=
  ⟨h.fl, h.sl, fun p e => by cases e; exact hj, fun r e => ⟨Nat.le_succ_of_le (h.rl r e).1, (h.rl r e).2⟩, Nat.le_succ_of_le h.rc, h.rn⟩
theorem NGood.another {x : Ag11.Letter} (h : NGood N n) (hx : x.from_ < N) : NGood N (another n x) := by
  refine ⟨h.fl, h.sl, h.pw, fun r e => ?_, ?_, ?_⟩
  · rcases List.mem_append.mp e with e | e
    · exact ⟨Nat.le_succ_of_le (h.rl r e).1, (h.rl r e).2⟩
    · rw [List.mem_singleton.mp e]
      exact ⟨Nat.le_refl _, hx⟩
  · show (n.relays ++ [_]).length ≤ n.count + 1
    rw [List.length_append]
    exact Nat.succ_le_succ h.rc
  · refine List.pairwise_append.mpr ⟨h.rn, List.pairwise_singleton _ _, fun a ha b hb => ?_⟩
    rw [List.mem_singleton.mp hb]
    have := (h.rl a ha).1
    show ¬ a.num = n.count + 1
    omega
theorem NGood.filter {q : Ag11.Relay → Bool} (h : NGood N n) : NGood N { n with relays := n.relays.filter q } :=
  ⟨h.fl, h.sl, h.pw, fun r e => h.rl r (List.mem_filter.mp e).1, Nat.le_trans (List.length_filter_le _ _) h.rc, h.rn.filter _⟩
theorem NGood.fresh {own count : Nat} : NGood N (Ag11.fresh N own count i) :=
  ⟨by show ((List.replicate N _).set i _).length = N; rw [List.length_set, List.length_replicate], by show (List.replicate N 0).length = N; rw [List.length_replicate], fun p e => (by cases e), fun r e => (by cases e), Nat.zero_le _, .nil⟩
theorem Good.mono {t' : Nat} (h : Good t s) (l : t ≤ t') : Good t' s := ⟨h.lo, h.hi, h.wt, fun i n e => ⟨(h.nd i n e).1, Nat.le_trans (h.nd i n e).2 l⟩, h.lt, h.ll, Nat.le_trans h.bl l⟩
theorem Good.set (h : Good t s) (hn : NGood s.nodes.length n) (hc : n.count ≤ t) : Good t (Ag11.setNode s i n) := by
  refine ⟨by rw [setNode_len]; exact h.lo, by rw [setNode_len]; exact h.hi, h.wt, fun j m e => ?_, fun x e => by rw [setNode_len]; exact h.lt x e, h.ll, h.bl⟩
  rw [setNode_len]
  rw [setNode_get] at e
  by_cases c : i = j
  · rw [if_pos c] at e
    by_cases d : i < s.nodes.length
    · rw [if_pos d] at e
      cases e
      exact ⟨hn, hc⟩
    · rw [if_neg d] at e
      cases e
  · rw [if_neg c] at e
    exact h.nd j m e
theorem Good.send {l : List Ag11.Letter} (h : Good t s) (hl : ∀ x ∈ l, LGood s.nodes.length x) : Good t (Ag11.send s l) := by
  refine ⟨h.lo, h.hi, h.wt, h.nd, fun x e => ?_, send_len, h.bl⟩
  rcases List.mem_append.mp (List.mem_of_mem_take e) with e | e
  · exact h.lt x e
  · exact hl x e
theorem Good.send1 {x : Ag11.Letter} (h : Good t s) (hl : LGood s.nodes.length x) : Good t (Ag11.send s [x]) := h.send fun y e => by rw [List.mem_singleton.mp e]; exact hl
theorem letter_good {kind to_ num whom : Nat} (h : NGood N n) (h1 : kind ≤ 2) (h2 : to_ < N) (h3 : i < N) (h4 : whom < N) : LGood N (Ag11.letter n kind to_ i num whom) := ⟨h1, h2, h3, h4, h.fl⟩
theorem Good.wait {p : Ag11.Probe} (h : Good t s) (hn : s.nodes[i]? = some n) (hp : n.probe = some p) : Good (t + 1) (waitS s i n p) := by
  obtain ⟨ng, nt⟩ := h.nd i n hn
  have hi : i < s.nodes.length := (List.getElem?_eq_some_iff.mp hn).1
  have pw := ng.pw p hp
  unfold waitS
  split
  · refine Good.send ((h.mono (Nat.le_succ t)).set (ng.helped pw) (Nat.le_succ_of_le nt)) fun x e => ?_
    rw [setNode_len]
    unfold helpL at e
    obtain ⟨k, hk, rfl⟩ := List.mem_map.mp e
    exact letter_good (ng.helped pw) (by decide) (List.mem_range.mp (List.mem_filter.mp hk).1) hi pw
  · split
    · have g1 : Good t (Ag11.setNode s i (unasked n)) := h.set ng.unasked nt
      unfold blameS
      split
      · have g2 : Good t (Ag11.setNode (Ag11.setNode s i (unasked n)) i (Ag11.learn (unasked n) p.whom ⟨(Ag11.fact (unasked n) p.whom).num, 1⟩)) := g1.set (by rw [setNode_len]; exact ng.unasked.learn) nt
        refine ⟨g2.lo, g2.hi, g2.wt, fun j m e => ⟨(g2.nd j m e).1, Nat.le_succ_of_le (g2.nd j m e).2⟩, g2.lt, g2.ll, ?_⟩
        show (s.blames ++ [_]).length ≤ t + 1
        rw [List.length_append]
        exact Nat.succ_le_succ h.bl
      · exact g1.mono (Nat.le_succ t)
    · exact h.mono (Nat.le_succ t)
theorem Good.tick (h : Good t s) (hn : s.nodes[i]? = some n) : Good (t + 1) (Ag11.tick s i) := by
  obtain ⟨ng, nt⟩ := h.nd i n hn
  have hi : i < s.nodes.length := (List.getElem?_eq_some_iff.mp hn).1
  rw [tick_is hn]
  have ng2 : NGood s.nodes.length (giveK s.patience (ticked n) s.nodes.length) := ng.give
  have nt2 : (giveK s.patience (ticked n) s.nodes.length).count ≤ t := by rw [give_keeps.2.2.1]; exact nt
  generalize giveK s.patience (ticked n) s.nodes.length = m at ng2 nt2
  unfold tickS
  cases hp : m.probe with
  | none => exact (h.set ng2 nt2).mono (Nat.le_succ t)
  | some p => exact Good.wait (h.set ng2 nt2) (setNode_at hi) hp
theorem Good.hand {x : Ag11.Letter} (h : Good t s) (hx : LGood s.nodes.length x) : Good (t + 1) (Ag11.hand s x).1 := by
  obtain ⟨n, hn⟩ := node_in hx.to_
  obtain ⟨ng, nt⟩ := h.nd _ n hn
  rw [hand_is hn hx.kd]
  unfold handS
  have ng2 : NGood s.nodes.length (Ag11.hear n x.to_ x.facts) := ng.hear
  have nt2 : (Ag11.hear n x.to_ x.facts).count ≤ t := by rw [hear_keeps.2.1]; exact nt
  generalize Ag11.hear n x.to_ x.facts = m at ng2 nt2
  have g1 : Good t (Ag11.setNode s x.to_ m) := h.set ng2 nt2
  split
  · exact h.mono (Nat.le_succ t)
  · split
    · exact (Good.send1 g1 (by rw [setNode_len]; exact letter_good ng2 (by decide) hx.from_ hx.to_ (by have := h.lo; omega))).mono (Nat.le_succ t)
    · split
      · unfold hereS
        cases e : m.relays.find? fun (r : Ag11.Relay) => r.num == x.num with
        | some r =>
          have rm := List.mem_of_find?_eq_some e
          have g2 : Good t (Ag11.setNode (Ag11.setNode s x.to_ m) x.to_ { m with relays := m.relays.filter fun (y : Ag11.Relay) => y.num != x.num }) := g1.set (by rw [setNode_len]; exact ng2.filter) nt2
          exact (Good.send1 g2 (by rw [setNode_len, setNode_len]; exact letter_good ng2 (by decide) (ng2.rl r rm).2 hx.to_ (by have := h.lo; omega))).mono (Nat.le_succ t)
        | none =>
          cases hp : m.probe with
          | none => exact g1.mono (Nat.le_succ t)
          | some p =>
            show Good (t + 1) (if p.num = x.num then (Ag11.setNode (Ag11.setNode s x.to_ m) x.to_ (unasked m), (2 : Int)) else (Ag11.setNode s x.to_ m, 5)).1
            split
            · exact (Good.set (n := unasked m) g1 (by rw [setNode_len]; exact ng2.unasked) nt2).mono (Nat.le_succ t)
            · exact g1.mono (Nat.le_succ t)
      · have g2 : Good (t + 1) (Ag11.setNode s x.to_ (another m x)) := (h.mono (Nat.le_succ t)).set (ng2.another hx.from_) (Nat.succ_le_succ nt2)
        exact Good.send1 g2 (by rw [setNode_len]; exact letter_good (ng2.another hx.from_) (by decide) hx.whom hx.to_ (by have := h.lo; omega))
def GoodO (t : Nat) : Ag11.Abs → Prop
  | none => True
  | some s => Good t s
theorem GoodO.step {o : Ag11.Abs} (h : GoodO t o) (c : Ag11.Call) : GoodO (t + 1) (Ag11.step o c).1 := by
  have same : GoodO (t + 1) o := by
    cases o with
    | none => exact True.intro
    | some s => exact Good.mono h (Nat.le_succ t)
  cases c with
  | begin_ n wt pt =>
    show GoodO (t + 1) (if n < 2 ∨ (5 < n ∨ (wt = 0 ∨ (20 < wt ∨ (pt = 0 ∨ 20 < pt)))) then (o, [-1]) else (some (world0 n wt pt), [0])).1
    split
    · exact same
    · rename_i c
      have el : ((List.range n).map fun (i : Nat) => Ag11.fresh n 0 0 i).length = n := by rw [List.length_map, List.length_range]
      refine ⟨by show 2 ≤ ((List.range n).map fun (i : Nat) => Ag11.fresh n 0 0 i).length; omega, by show ((List.range n).map fun (i : Nat) => Ag11.fresh n 0 0 i).length ≤ 5; omega, by show wt ≤ 20; omega, fun i m e => ?_, fun x e => (by cases e), Nat.zero_le _, Nat.zero_le _⟩
      have e : ((List.range n).map fun (i : Nat) => Ag11.fresh n 0 0 i)[i]? = some m := e
      have hi : i < n := by
        have := (List.getElem?_eq_some_iff.mp e).1
        omega
      rw [List.getElem?_map, List.getElem?_range hi] at e
      cases e
      show NGood ((List.range n).map fun (i : Nat) => Ag11.fresh n 0 0 i).length _ ∧ _
      rw [el]
      exact ⟨NGood.fresh, Nat.zero_le _⟩
  | probe i j => cases o with
    | none => exact True.intro
    | some s =>
      show GoodO (t + 1) (if Ag11.count s ≤ i ∨ (Ag11.count s ≤ j ∨ i = j) then (some s, [-1]) else if (Ag11.node s i).up = false then (some s, [-3]) else (some (Ag11.probe s i j), [(((Ag11.node s i).count + 1 : Nat) : Int)])).1
      split
      · exact same
      · rename_i c
        split
        · exact same
        · have hi : i < s.nodes.length := by unfold Ag11.count at c; omega
          have hj : j < s.nodes.length := by unfold Ag11.count at c; omega
          obtain ⟨n, hn⟩ := node_in hi
          obtain ⟨ng, nt⟩ := Good.nd h i n hn
          show Good (t + 1) (Ag11.probe s i j)
          rw [probe_is hn]
          have g1 : Good (t + 1) (Ag11.setNode s i (probing n j)) := (Good.mono h (Nat.le_succ t)).set (ng.probing hj) (Nat.succ_le_succ nt)
          exact Good.send1 g1 (by rw [setNode_len]; exact letter_good (ng.probing hj) (by decide) hj hi (by omega))
  | tick i => cases o with
    | none => exact True.intro
    | some s =>
      show GoodO (t + 1) (if Ag11.count s ≤ i then (some s, [-1]) else if (Ag11.node s i).up = false then (some s, [-3]) else (some (Ag11.tick s i), [(((Ag11.node s i).clock + 1 : Nat) : Int)])).1
      split
      · exact same
      · rename_i c
        split
        · exact same
        · have hi : i < s.nodes.length := by unfold Ag11.count at c; omega
          obtain ⟨n, hn⟩ := node_in hi
          exact Good.tick h hn
  | take k => cases o with
    | none => exact True.intro
    | some s =>
      show GoodO (t + 1) (match s.letters[k]? with
        | none => (some s, [-1])
        | some x => (some (Ag11.hand { s with letters := s.letters.eraseIdx k } x).1, (Ag11.hand { s with letters := s.letters.eraseIdx k } x).2)).1
      cases e : s.letters[k]? with
      | none => exact same
      | some x => exact Good.hand (good_erase h) (Good.lt h x (List.mem_of_getElem? e))
  | keep k => cases o with
    | none => exact True.intro
    | some s =>
      show GoodO (t + 1) (match s.letters[k]? with
        | none => (some s, [-1])
        | some x => (some (Ag11.hand s x).1, (Ag11.hand s x).2)).1
      cases e : s.letters[k]? with
      | none => exact same
      | some x => exact Good.hand h (Good.lt h x (List.mem_of_getElem? e))
  | lose k => cases o with
    | none => exact True.intro
    | some s =>
      show GoodO (t + 1) (if s.letters.length ≤ k then (some s, [-1]) else (some { s with letters := s.letters.eraseIdx k }, [0])).1
      split
      · exact same
      · exact (good_erase h).mono (Nat.le_succ t)
  | halt_ i => cases o with
    | none => exact True.intro
    | some s =>
      show GoodO (t + 1) (if Ag11.count s ≤ i then (some s, [-1]) else if (Ag11.node s i).up = false then (some s, [-2]) else (some (Ag11.setNode s i { Ag11.node s i with up := false }), [0])).1
      split
      · exact same
      · rename_i c
        split
        · exact same
        · have hi : i < s.nodes.length := by unfold Ag11.count at c; omega
          obtain ⟨n, hn⟩ := node_in hi
          obtain ⟨ng, nt⟩ := Good.nd h i n hn
          show Good (t + 1) (Ag11.setNode s i { Ag11.node s i with up := false })
          rw [node_of hn]
          exact (Good.set h (show NGood s.nodes.length { n with up := false } from ⟨ng.fl, ng.sl, ng.pw, ng.rl, ng.rc, ng.rn⟩) nt).mono (Nat.le_succ t)
  | start i => cases o with
    | none => exact True.intro
    | some s =>
      show GoodO (t + 1) (if Ag11.count s ≤ i then (some s, [-1]) else if (Ag11.node s i).up = true then (some s, [-2]) else (some (Ag11.setNode s i (Ag11.fresh (Ag11.count s) ((Ag11.node s i).own + 1) (Ag11.node s i).count i)), [(((Ag11.node s i).own + 1 : Nat) : Int)])).1
      split
      · exact same
      · rename_i c
        split
        · exact same
        · have hi : i < s.nodes.length := by unfold Ag11.count at c; omega
          obtain ⟨n, hn⟩ := node_in hi
          obtain ⟨ng, nt⟩ := Good.nd h i n hn
          show Good (t + 1) (Ag11.setNode s i (Ag11.fresh (Ag11.count s) ((Ag11.node s i).own + 1) (Ag11.node s i).count i))
          rw [node_of hn]
          exact (Good.set h (NGood.fresh (N := s.nodes.length)) nt).mono (Nat.le_succ t)
  | letters => cases o with
    | none => exact True.intro
    | some s => exact same
  | node i => cases o with
    | none => exact True.intro
    | some s => exact same
  | sees i => cases o with
    | none => exact True.intro
    | some s => exact same
  | blames => cases o with
    | none => exact True.intro
    | some s => exact same
end

end Wt
namespace Wt
open PySem PySem.Spec PyProof.Rows L2
section
variable {P : Program} {w : World} {K : PySem.W.Frag} {mg : Str → Option Value} {base : Heap}
variable {G : Pg K mg} {T : Tg → Prop} {g g' : Gh} {H H' H0 : Hp} {W : WL} {s : Ag11.State}
/-! ### what lies around a world -/
theorem WorldAt.new {p : Addr} {x : HO} (h : WorldAt G H0 g H W s) (hp : H p = none) : WorldAt G (upd H0 p x) (tag g p .out) (upd H p x) W s := by
  have k := h.keep (Mv.new (T := fun _ => False) (o := x) .out hp) (fun _ z => z)
  refine ⟨fun b o e => ?_, k.obj, k.nds, k.len, k.nod, k.row, k.blm⟩
  by_cases c : b = p
  · subst c
    rw [upd_same] at e
    cases e
    exact ⟨upd_same, tag_same⟩
  · rw [upd_ne c] at e
    exact k.out b o e
theorem WorldAt.less {H1 : Hp} (h : WorldAt G H0 g H W s) (l : Same H1 H0) : WorldAt G H1 g H W s := ⟨fun b o e => h.out b o (l b o e), h.obj, h.nds, h.len, h.nod, h.row, h.blm⟩
theorem WorldAt.puts {a : Addr} {u x : HO} (h : WorldAt G H0 g H W s) (ha : H0 a = some u) (hu : ¬ isTup u) : WorldAt G (upd H0 a x) g (upd H a x) W s := by
  have m : Mv (fun t => t = .out) g H g (upd H a x) := Mv.put (h.out a u ha) rfl hu
  have hm := h
  obtain ⟨h1, h2, h3, h4, h5, ⟨rs, h6, h7⟩, ⟨bs, h8, h9⟩⟩ := h
  refine ⟨fun b o e => ?_, h2.keep m (by intro z; cases z), h3.keep m (by intro z; cases z), h4, fun i L x a b => (h5 i L x a b).keep m (fun t q z => by rw [z] at q; exact q), ⟨rs, h6.keep m (by intro z; cases z), paired_mono (fun _ _ => LetterAt.keep m (by intro z; cases z)) h7⟩, ⟨bs, h8.keep m (by intro z; cases z), paired_mono (fun _ _ => BlameAt.keep m) h9⟩⟩
  by_cases c : b = a
  · subst c
    rw [upd_same] at e
    cases e
    exact ⟨upd_same, (h1 _ u ha).2⟩
  · rw [upd_ne c] at e
    exact ⟨by rw [upd_ne c]; exact (h1 b o e).1, (h1 b o e).2⟩
theorem upd_comm {a b : Addr} {x y : HO} (n : a ≠ b) : upd (upd H a x) b y = upd (upd H b y) a x := by
  funext c
  unfold upd
  by_cases e : c = a
  · by_cases f : c = b
    · exact absurd (e.symm.trans f) n
    · rw [if_neg f, if_pos e, if_pos e]
  · by_cases f : c = b
    · rw [if_pos f, if_neg e, if_pos f]
    · rw [if_neg f, if_neg e, if_neg e, if_neg f]
/-- the line of calls: without a world, or with one -/
def LineAt (G : Pg K mg) (H0 H : Hp) (la : Addr) : Ag11.Abs → Prop
  | none => ∃ dx, H0 la = none ∧ Same H0 H ∧ H la = some (.ins G.CLine dx (iF .non))
  | some s => ∃ dx g W, H0 la = none ∧ WorldAt G (upd H0 la (.ins G.CLine dx (iF (.ref W.w)))) g H W s
theorem Same.up {a : Addr} {x : HO} (n : H a = none) : Same H (upd H a x) := fun b o e => by
  rw [upd_ne (ne_of_none e n)]
  exact e
theorem WorldAt.same (h : WorldAt G H0 g H W s) : Same H0 H := fun b o e => (h.out b o e).1
theorem LineAt.free {la : Addr} {o : Ag11.Abs} (h : LineAt G H0 H la o) : H0 la = none := by
  cases o with
  | none =>
    obtain ⟨_, h1, _⟩ := h
    exact h1
  | some s =>
    obtain ⟨_, _, _, h1, _⟩ := h
    exact h1
theorem LineAt.same {la : Addr} {o : Ag11.Abs} (h : LineAt G H0 H la o) : Same H0 H := by
  cases o with
  | none =>
    obtain ⟨_, _, h1, _⟩ := h
    exact h1
  | some s =>
    obtain ⟨dx, g, W, h1, h2⟩ := h
    exact (Same.up h1).trans h2.same
theorem LineAt.obj {la : Addr} {o : Ag11.Abs} (h : LineAt G H0 H la o) : ∃ dx v, H la = some (.ins G.CLine dx (iF v)) := by
  cases o with
  | none =>
    obtain ⟨dx, _, _, h1⟩ := h
    exact ⟨dx, _, h1⟩
  | some s =>
    obtain ⟨dx, g, W, h1, h2⟩ := h
    exact ⟨dx, _, (h2.out la _ upd_same).1⟩
theorem LineAt.new {la p : Addr} {x : HO} {o : Ag11.Abs} (h : LineAt G H0 H la o) (hp : H p = none) : LineAt G (upd H0 p x) (upd H p x) la o := by
  obtain ⟨_, _, ho⟩ := h.obj
  have n : la ≠ p := ne_of_none ho hp
  cases o with
  | none =>
    obtain ⟨dx, h1, h2, h3⟩ := h
    refine ⟨dx, by rw [upd_ne n]; exact h1, fun b o e => ?_, by rw [upd_ne n]; exact h3⟩
    by_cases c : b = p
    · subst c
      rw [upd_same] at e ⊢
      exact e
    · rw [upd_ne c] at e ⊢
      exact h2 b o e
  | some s =>
    obtain ⟨dx, g, W, h1, h2⟩ := h
    refine ⟨dx, tag g p .out, W, by rw [upd_ne n]; exact h1, ?_⟩
    rw [upd_comm n.symm]
    exact h2.new hp
theorem LineAt.less {la : Addr} {o : Ag11.Abs} {H1 : Hp} (h : LineAt G H0 H la o) (l : Same H1 H0) : LineAt G H1 H la o := by
  have f := l.free h.free
  cases o with
  | none =>
    obtain ⟨dx, h1, h2, h3⟩ := h
    exact ⟨dx, f, l.trans h2, h3⟩
  | some s =>
    obtain ⟨dx, g, W, h1, h2⟩ := h
    refine ⟨dx, g, W, f, h2.less fun b o e => ?_⟩
    by_cases c : b = la
    · subst c
      rw [upd_same] at e ⊢
      exact e
    · rw [upd_ne c] at e ⊢
      exact l b o e
theorem LineAt.puts {la a : Addr} {o : Ag11.Abs} {u x : HO} (h : LineAt G H0 H la o) (ha : H0 a = some u) (hu : ¬ isTup u) : LineAt G (upd H0 a x) (upd H a x) la o := by
  have n : la ≠ a := fun e => by
    rw [← e, h.free] at ha
    cases ha
  cases o with
  | none =>
    obtain ⟨dx, h1, h2, h3⟩ := h
    refine ⟨dx, by rw [upd_ne n]; exact h1, fun b o e => ?_, by rw [upd_ne n]; exact h3⟩
    by_cases c : b = a
    · subst c
      rw [upd_same] at e ⊢
      exact e
    · rw [upd_ne c] at e ⊢
      exact h2 b o e
  | some s =>
    obtain ⟨dx, g, W, h1, h2⟩ := h
    refine ⟨dx, g, W, by rw [upd_ne n]; exact h1, ?_⟩
    rw [upd_comm n.symm]
    exact h2.puts (by rw [upd_ne n.symm]; exact ha) hu
/-! ### Line -/
def sp_Line_init (G : Pg K mg) : Sp := fun vs H Q _ => ∃ (p dx : Addr), vs = [.ref p] ∧ H p = some (.ins G.CLine dx []) ∧ Q .non (upd H p (.ins G.CLine dx (iF .non)))
theorem len_Line_init {vs : List V} {Q : VK} {E : XK} (h : sp_Line_init G vs H Q E) : vs.length = (["self"] : List Str).length := by
  obtain ⟨p, dx, rfl, _⟩ := h
  rfl
theorem rd_Line_init (G : Pg K mg) {vs : List V} {H : Hp} {Q : VK} {E : XK} (h : sp_Line_init G vs H Q E) : (t_Line_init G) { nx := fun _ H' => Q .non H', rt := Q } (start ["self"] vs) H := by
  obtain ⟨p, dx, rfl, hp, k⟩ := h
  refine ⟨_, rfl, p, _, dx, _, rfl, hp, G.cl_Line, G.n_Line_world, (by decide), ?_⟩
  rw [iF_init]
  exact k
theorem ok_Line_init (G : Pg K mg) : FnOk P w K mg base CX0 1 G.f_Line_init G.fd_Line_init ["self"] (sp_Line_init G) := by
  refine G.F_Line_init.ok sc_Line_init (fun vs H Q E h => len_Line_init h) (fun cdv A outer s H vs Q E hr h => ⟨t_Line_init G, bd_Line_init G hr, rd_Line_init G h⟩)
def sp_Line_begin (G : Pg K mg) : Sp := fun vs H Q _ => ∃ (H0 : Hp) (la : Addr) (o : Ag11.Abs) (n wt pt : Nat), vs = [.ref la, .int n, .int wt, .int pt] ∧ LineAt G H0 H la o ∧
  ∀ (H' : Hp) (z : Int), LineAt G H0 H' la (Ag11.step o (.begin_ n wt pt)).1 → (Ag11.step o (.begin_ n wt pt)).2 = [z] → Q (.int z) H'
theorem len_Line_begin {vs : List V} {Q : VK} {E : XK} (h : sp_Line_begin G vs H Q E) : vs.length = (["self", "count", "wait", "patience"] : List Str).length := by
  obtain ⟨H0, la, o, n, wt, pt, rfl, _⟩ := h
  rfl
/-- lo <= x <= hi, and what comes of it -/
theorem chain3 {lo hi x : Int} {A : Bool → Prop} (h : A (decide (lo ≤ x ∧ x ≤ hi))) : (if decide (lo ≤ x) = true then A (decide (x ≤ hi)) else A false) := by
  by_cases c : lo ≤ x
  · rw [decide_eq_true c, if_pos rfl]
    rw [decide_eq_decide.mpr (show x ≤ hi ↔ (lo ≤ x ∧ x ≤ hi) from ⟨fun z => ⟨c, z⟩, fun z => z.2⟩)]
    exact h
  · rw [decide_eq_false c, if_neg Bool.false_ne_true]
    rw [decide_eq_false (show ¬ (lo ≤ x ∧ x ≤ hi) from fun z => c z.1)] at h
    exact h
theorem rd_Line_begin (G : Pg K mg) {vs : List V} {H : Hp} {Q : VK} {E : XK} (h : sp_Line_begin G vs H Q E) : (t_Line_begin G (sp_World_init G)) { nx := fun _ H' => Q .non H', rt := Q } (start ["self", "count", "wait", "patience"] vs) H := by
  obtain ⟨H0, la, o, n, wt, pt, rfl, hA, q⟩ := h
  have no : (n < 2 ∨ (5 < n ∨ (wt = 0 ∨ (20 < wt ∨ (pt = 0 ∨ 20 < pt))))) → Q (.int (-1)) H := fun z => by
    have e : Ag11.step o (.begin_ n wt pt) = (o, [-1]) := by
      show (if n < 2 ∨ (5 < n ∨ (wt = 0 ∨ (20 < wt ∨ (pt = 0 ∨ 20 < pt)))) then _ else _) = _
      rw [if_pos z]
    rw [e] at q
    exact q H (-1) hA rfl
  refine ⟨_, rfl, _, _, rfl, rfl, _, rfl, ?_⟩
  by_cases c1 : (2 : Int) ≤ n
  rotate_left
  · refine dF c1 ⟨_, rfl, ?_⟩
    refine bT rfl ?_
    exact no (by omega)
  refine dT c1 ⟨_, _, rfl, rfl, _, rfl, ?_⟩
  by_cases c2 : (n : Int) ≤ 5
  rotate_left
  · refine nT c2 ?_
    exact no (by omega)
  refine nF' c2 ?_
  refine ⟨_, rfl, _, _, rfl, rfl, _, rfl, ?_⟩
  by_cases c3 : (1 : Int) ≤ wt
  rotate_left
  · refine dF c3 ⟨_, rfl, ?_⟩
    refine bT rfl ?_
    exact no (by omega)
  refine dT c3 ⟨_, _, rfl, rfl, _, rfl, ?_⟩
  by_cases c4 : (wt : Int) ≤ 20
  rotate_left
  · refine nT c4 ?_
    exact no (by omega)
  refine nF' c4 ?_
  refine ⟨_, rfl, _, _, rfl, rfl, _, rfl, ?_⟩
  by_cases c5 : (1 : Int) ≤ pt
  rotate_left
  · refine dF c5 ⟨_, rfl, ?_⟩
    refine bT rfl ?_
    exact no (by omega)
  refine dT c5 ⟨_, _, rfl, rfl, _, rfl, ?_⟩
  by_cases c6 : (pt : Int) ≤ 20
  rotate_left
  · refine nT c6 ?_
    exact no (by omega)
  refine nF' c6 ?_
  have e : Ag11.step o (.begin_ n wt pt) = (some (world0 n wt pt), [0]) := by
    show (if n < 2 ∨ (5 < n ∨ (wt = 0 ∨ (20 < wt ∨ (pt = 0 ∨ 20 < pt)))) then _ else _) = _
    rw [if_neg (by omega)]
    rfl
  rw [e] at q
  obtain ⟨dx, v, ho⟩ := hA.obj
  refine ⟨_, rfl, _, rfl, _, rfl, ?_⟩
  intro x d nx nd nex
  have nla : la ≠ x := ne_of_none ho nx
  have sm : Same (upd H0 la (.ins G.CLine dx (iF v))) (upd (upd H d (.own x)) x (.ins G.CWorld d [])) := fun b o e => by
    have e2 : H b = some o := by
      by_cases c : b = la
      · subst c
        rw [upd_same] at e
        cases e
        exact ho
      · rw [upd_ne c] at e
        exact hA.same b o e
    rw [upd_ne (ne_of_none e2 nx), upd_ne (ne_of_none e2 nd)]
    exact e2
  refine ⟨upd H0 la (.ins G.CLine dx (iF v)), x, d, n, wt, pt, rfl, upd_same, sm, by rw [upd_ne nla.symm]; exact hA.same.free nx, by omega, fun g' H' W hw hW => ⟨rfl, ?_⟩⟩
  have ho' := (hW.out la _ upd_same).1
  refine ⟨_, rfl, la, _, dx, _, rfl, ho', G.cl_Line, G.n_Line_world, (by show 1 < 1000; decide), ?_⟩
  rw [iF_put_world]
  have hW2 := hW.puts (x := .ins G.CLine dx (iF (.ref x))) upd_same (fun z => z)
  rw [upd_upd, ← hw] at hW2
  refine q _ 0 ?_ rfl
  rw [← hw]
  exact ⟨dx, g', W, hA.free, hW2⟩
theorem ok_Line_begin (G : Pg K mg) : FnOk P w K mg base CX0 6 G.f_Line_begin G.fd_Line_begin ["self", "count", "wait", "patience"] (sp_Line_begin G) := by
  refine G.F_Line_begin.ok sc_Line_begin (fun vs H Q E h => len_Line_begin h) (fun cdv A outer s H vs Q E hr h => ⟨t_Line_begin G (sp_World_init G), bd_Line_begin G (ok_World_init G) hr, rd_Line_begin G h⟩)
end

end Wt
namespace Wt
open PySem PySem.Spec PyProof.Rows L2
section
variable {P : Program} {w : World} {K : PySem.W.Frag} {mg : Str → Option Value} {base : Heap}
variable {G : Pg K mg} {T : Tg → Prop} {g g' : Gh} {H H' H0 : Hp} {W : WL} {s : Ag11.State}
/-! ### lists of lists -/
theorem paired_atL {α β : Type} {F : α → β → Prop} : ∀ {l : List α} {m : List β}, Paired F l m → ∀ {i : Nat} {a : α}, l[i]? = some a → ∃ b, m[i]? = some b ∧ F a b
  | _, _, .nil, i, b, e => by simp at e
  | _, _, .cons r _, 0, b, e => by simp at e; subst e; exact ⟨_, rfl, r⟩
  | _, _, .cons _ t, i + 1, b, e => by
    obtain ⟨a, h1, h2⟩ := paired_atL t (i := i) (a := b) (by simpa using e)
    exact ⟨a, by simpa using h1, h2⟩
theorem paired_map {α β γ : Type} {F : α → β → Prop} {F' : α → γ → Prop} {f : β → γ} (hm : ∀ a b, F a b → F' a (f b)) : ∀ {l : List α} {m : List β}, Paired F l m → Paired F' l (m.map f)
  | _, _, .nil => .nil
  | _, _, .cons r t => .cons (hm _ _ r) (paired_map hm t)
theorem flat_le {α : Type} {c : Nat} : ∀ {l : List (List α)}, (∀ x ∈ l, x.length ≤ c) → l.flatten.length ≤ l.length * c
  | [], _ => Nat.zero_le _
  | x :: r, h => by
    have h1 := h x List.mem_cons_self
    have h2 := flat_le (l := r) fun y hy => h y (List.mem_cons_of_mem _ hy)
    rw [List.flatten_cons, List.length_append, List.length_cons, Nat.succ_mul]
    omega
theorem flat_take_le {α : Type} {l : List (List α)} {k : Nat} : (l.take k).flatten.length ≤ l.flatten.length := by
  have e : l.flatten = (l.take k).flatten ++ (l.drop k).flatten := by
    rw [← List.flatten_append, List.take_append_drop]
  rw [e, List.length_append]
  omega
def PartAt (H : Hp) (v : V) (n : List V) : Prop := ∃ a, v = .ref a ∧ (H a = some (.lst n) ∨ H a = some (.tup n))
def sp_one_behind_another (_ : Pg K mg) : Sp := fun vs H Q _ => ∃ (l : Addr) (us : List V) (ns : List (List V)), vs = [.ref l] ∧ H l = some (.lst us) ∧ Paired (PartAt H) us ns ∧ ns.flatten.length ≤ 100000 ∧
  ∀ p, H p = none → Q (.ref p) (upd H p (.lst ns.flatten))
theorem len_one_behind_another {vs : List V} {Q : VK} {E : XK} (h : sp_one_behind_another G vs H Q E) : vs.length = (["parts"] : List Str).length := by
  obtain ⟨l, us, ns, rfl, _⟩ := h
  rfl
theorem rd_one_behind_another (G : Pg K mg) {vs : List V} {H : Hp} {Q : VK} {E : XK} (h : sp_one_behind_another G vs H Q E) : (t_one_behind_another G) { nx := fun _ H' => Q .non H', rt := Q } (start ["parts", "numbers", "part"] vs) H := by
  obtain ⟨l, us, ns, rfl, hl, hp, hz, q⟩ := h
  refine ⟨Nat.zero_le _, fun p hp0 => ?_⟩
  have npl : l ≠ p := ne_of_none hl hp0
  have el : us.length = ns.length := paired_len hp
  refine ⟨_, rfl, l, rfl, ⟨us, SqL.of (by rw [upd_ne npl]; exact hl)⟩, for_list (xs := us) (fun k σ H' => ∃ v2, σ = [some (.ref l), some (.ref p), v2] ∧ H' = upd H p (.lst (ns.take k).flatten)) ⟨_, rfl, rfl⟩ ?_ ?_ ?_⟩
  · rintro i σ H' _ ⟨_, _, rfl⟩
    exact SqL.of (by rw [upd_ne npl]; exact hl)
  · rintro i x σ H' hx ⟨v2, rfl, rfl⟩
    obtain ⟨n, hn, a, rfl, ha⟩ := paired_atL hp hx
    have nap : a ≠ p := by
      rcases ha with ha | ha
      · exact ne_of_none ha hp0
      · exact ne_of_none ha hp0
    have et : (ns.take (i + 1)).flatten = (ns.take i).flatten ++ n := by
      rw [take_more hn, List.flatten_append, List.flatten_cons, List.flatten_nil, List.append_nil]
    refine ⟨_, rfl, .inl ⟨rfl, _, SqL.of upd_same⟩, _, rfl, p, a, _, n, rfl, rfl, upd_same, ?_, ?_, ?_⟩
    · rw [upd_ne nap]
      exact ha
    · rw [← List.length_append, ← et]
      exact Nat.le_trans (Nat.le_trans flat_take_le hz) (by decide)
    · refine ⟨_, rfl, ?_⟩
      rw [upd_upd, et]
  · rintro σ H' ⟨v2, rfl, rfl⟩
    refine ⟨_, rfl, ?_⟩
    rw [el, List.take_of_length_le (Nat.le_refl _)]
    exact q p hp0
theorem ok_one_behind_another (G : Pg K mg) : FnOk P w K mg base CX0 1 G.f_one_behind_another G.fd_one_behind_another ["parts"] (sp_one_behind_another G) := by
  refine G.F_one_behind_another.ok sc_one_behind_another (fun vs H Q E h => len_one_behind_another h) (fun cdv A outer s H vs Q E hr h => ⟨t_one_behind_another G, bd_one_behind_another G hr, rd_one_behind_another G h⟩)
/-! ### what is told, as lists -/
def factL (f : Ag11.Fact) : List V := [.int f.num, .int f.sort]
theorem facts_parts {vs : List V} {fs : List Ag11.Fact} (h : FactsAt H vs fs) : Paired (PartAt H) vs (fs.map factL) := paired_map (fun _ _ ⟨t, e, h⟩ => ⟨t, e, .inr h⟩) h
theorem facts_flat {fs : List Ag11.Fact} : (fs.map factL).flatten = (Ag11.flat fs).map nI := by
  unfold Ag11.flat
  rw [← List.flatMap_def, List.map_flatMap]
  rfl
theorem flat_len {fs : List Ag11.Fact} : (Ag11.flat fs).length = 2 * fs.length := by
  induction fs with
  | nil => rfl
  | cons f r ih =>
    show (Ag11.flat r).length + 1 + 1 = 2 * (r.length + 1)
    omega
theorem facts_small {fs : List Ag11.Fact} (h : fs.length ≤ 5) : (fs.map factL).flatten.length ≤ 100000 := by
  rw [facts_flat, List.length_map, flat_len]
  omega
theorem same_up {p : Addr} {o : HO} (n : H p = none) : Same H (upd H p o) := fun b u e => by
  rw [upd_ne (ne_of_none e n)]
  exact e
theorem Mv.same (h : Same H H') : Mv T g H g H' := fun b o e => ⟨rfl, ⟨o, h b o e⟩, fun _ => h b o e⟩
/-- a new list p of numbers has been told, and nothing else has changed -/
def Told (H : Hp) (ns : List Nat) (Q : VK) : Prop := ∀ (H' : Hp) (p : Addr), Same H H' → H p = none → H' p = some (.lst (ns.map nI)) → Q (.ref p) H'
/-! ### Asking.numbers, Letter.numbers -/
def askL (p : Ag11.Probe) : List Nat := [p.whom, p.num, p.since, Ag11.bit p.helped]
def sp_Asking_numbers (G : Pg K mg) : Sp := fun vs H Q _ => ∃ (a dx : Addr) (p : Ag11.Probe), vs = [.ref a] ∧ H a = some (.ins G.CAsking dx (aFp p)) ∧ ∀ q, H q = none → Q (.ref q) (upd H q (.lst ((askL p).map nI)))
theorem len_Asking_numbers {vs : List V} {Q : VK} {E : XK} (h : sp_Asking_numbers G vs H Q E) : vs.length = (["self"] : List Str).length := by
  obtain ⟨a, dx, p, rfl, _⟩ := h
  rfl
theorem rd_Asking_numbers (G : Pg K mg) {vs : List V} {H : Hp} {Q : VK} {E : XK} (h : sp_Asking_numbers G vs H Q E) : (t_Asking_numbers G) { nx := fun _ H' => Q .non H', rt := Q } (start ["self"] vs) H := by
  obtain ⟨a, dx, p, rfl, ha, q⟩ := h
  refine ⟨_, rfl, a, _, dx, _, _, rfl, ha, G.cl_Asking, G.n_Asking_whom, aF_whom, _, rfl, a, _, dx, _, _, rfl, ha, G.cl_Asking, G.n_Asking_number, aF_number, _, rfl, a, _, dx, _, _, rfl, ha, G.cl_Asking, G.n_Asking_since, aF_since, _, rfl, a, _, dx, _, _, rfl, ha, G.cl_Asking, G.n_Asking_helped, aF_helped, _, rfl, ?_⟩
  unfold askL at q
  cases c : p.helped with
  | true =>
    rw [c] at q
    exact ⟨by show 4 ≤ sizeLine; decide, q⟩
  | false =>
    rw [c] at q
    exact ⟨by show 4 ≤ sizeLine; decide, q⟩
theorem ok_Asking_numbers (G : Pg K mg) : FnOk P w K mg base CX0 1 G.f_Asking_numbers G.fd_Asking_numbers ["self"] (sp_Asking_numbers G) := by
  refine G.F_Asking_numbers.ok sc_Asking_numbers (fun vs H Q E h => len_Asking_numbers h) (fun cdv A outer s H vs Q E hr h => ⟨t_Asking_numbers G, bd_Asking_numbers G hr, rd_Asking_numbers G h⟩)
def letterL (x : Ag11.Letter) : List Nat := [x.kind, x.to_, x.from_, x.num, x.whom] ++ Ag11.flat x.facts
def sp_Letter_numbers (G : Pg K mg) : Sp := fun vs H Q _ => ∃ (g : Gh) (v : V) (x : Ag11.Letter), vs = [v] ∧ LetterAt G g H v x ∧ x.facts.length ≤ 5 ∧ Told H (letterL x) Q
theorem len_Letter_numbers {vs : List V} {Q : VK} {E : XK} (h : sp_Letter_numbers G vs H Q E) : vs.length = (["self"] : List Str).length := by
  obtain ⟨g, v, x, rfl, _⟩ := h
  rfl
theorem rd_Letter_numbers (G : Pg K mg) {vs : List V} {H : Hp} {Q : VK} {E : XK} (h : sp_Letter_numbers G vs H Q E) : (t_Letter_numbers G (sp_one_behind_another G)) { nx := fun _ H' => Q .non H', rt := Q } (start ["self"] vs) H := by
  obtain ⟨g, v, x, rfl, ⟨p, dx, l, us, rfl, hp, hl, hf⟩, h5, q⟩ := h
  have hp := hp.1
  have hl := hl.1
  refine ⟨_, rfl, p, _, dx, _, _, rfl, hp, G.cl_Letter, G.n_Letter_kind, lF_kind, _, rfl, p, _, dx, _, _, rfl, hp, G.cl_Letter, G.n_Letter_to, lF_to, _, rfl, p, _, dx, _, _, rfl, hp, G.cl_Letter, G.n_Letter_sender, lF_sender, _, rfl, p, _, dx, _, _, rfl, hp, G.cl_Letter, G.n_Letter_number, lF_number, _, rfl, p, _, dx, _, _, rfl, hp, G.cl_Letter, G.n_Letter_whom, lF_whom, (by show 5 ≤ sizeLine; decide), fun A hA => ?_⟩
  have sA := same_up (o := .lst [.int x.kind, .int x.to_, .int x.from_, .int x.num, .int x.whom]) hA
  refine ⟨_, rfl, p, _, dx, _, _, rfl, sA _ _ hp, G.cl_Letter, G.n_Letter_facts, lF_facts, ?_⟩
  refine ⟨l, us, x.facts.map factL, rfl, sA _ _ hl, facts_parts (hf.keep (T := fun _ => False) (g := g) (Mv.same sA)), facts_small h5, fun B hB => ?_⟩
  have nAB : A ≠ B := fun e => by
    rw [← e, upd_same] at hB
    cases hB
  refine ⟨A, B, _, _, rfl, rfl, (by rw [upd_ne nAB]; exact upd_same), upd_same, ?_, fun C hC => ?_⟩
  · rw [facts_flat, List.length_map, flat_len]
    exact Nat.le_trans (show 5 + 2 * x.facts.length ≤ 100 by omega) (by decide)
  · have sB := same_up (o := .lst (x.facts.map factL).flatten) hB
    refine q _ C (sA.trans (sB.trans (same_up hC))) ((sA.trans sB).free hC) ?_
    rw [upd_same, facts_flat]
    unfold letterL
    rw [List.map_append]
    rfl
theorem ok_Letter_numbers (G : Pg K mg) : FnOk P w K mg base CX0 2 G.f_Letter_numbers G.fd_Letter_numbers ["self"] (sp_Letter_numbers G) := by
  refine G.F_Letter_numbers.ok sc_Letter_numbers (fun vs H Q E h => len_Letter_numbers h) (fun cdv A outer s H vs Q E hr h => ⟨t_Letter_numbers G (sp_one_behind_another G), bd_Letter_numbers G (ok_one_behind_another G) hr, rd_Letter_numbers G h⟩)
/-! ### Node.seen -/
def seenL (n : Ag11.Node) (k : Nat) : List Nat := (List.range k).filter fun (k : Nat) => (Ag11.fact n k).sort != 2
theorem seenL_yes {n : Ag11.Node} {k : Nat} (h : ¬ (Ag11.fact n k).sort = 2) : seenL n (k + 1) = seenL n k ++ [k] := by
  unfold seenL
  rw [List.range_succ, List.filter_append, List.filter_cons, if_pos (by simp [h])]
  rfl
theorem seenL_no {n : Ag11.Node} {k : Nat} (h : (Ag11.fact n k).sort = 2) : seenL n (k + 1) = seenL n k := by
  unfold seenL
  rw [List.range_succ, List.filter_append, List.filter_cons, if_neg (by simp [h]), List.filter_nil, List.append_nil]
theorem seenL_len {n : Ag11.Node} {k : Nat} : (seenL n k).length ≤ k := by
  have h := List.length_filter_le (fun (k : Nat) => (Ag11.fact n k).sort != 2) (List.range k)
  rw [List.length_range] at h
  exact h
def sp_Node_seen (G : Pg K mg) : Sp := fun vs H Q _ => ∃ (g : Gh) (L : NL) (i : Nat) (n : Ag11.Node), vs = [.ref L.a] ∧ NodeAt G g H L i n ∧ n.facts.length ≤ 5 ∧ ∀ p, H p = none → Q (.ref p) (upd H p (.lst ((seenL n n.facts.length).map nI)))
theorem len_Node_seen {vs : List V} {Q : VK} {E : XK} (h : sp_Node_seen G vs H Q E) : vs.length = (["self"] : List Str).length := by
  obtain ⟨g, L, i, n, rfl, _⟩ := h
  rfl
theorem rd_Node_seen (G : Pg K mg) {vs : List V} {H : Hp} {Q : VK} {E : XK} (h : sp_Node_seen G vs H Q E) : (t_Node_seen G) { nx := fun _ H' => Q .non H', rt := Q } (start ["self", "whom"] vs) H := by
  obtain ⟨g, L, i, n, rfl, hN, h5, q⟩ := h
  obtain ⟨us, hu, hf⟩ := hN.fct
  have eu : us.length = n.facts.length := paired_len hf
  refine ⟨_, rfl, L.a, _, L.dx, _, _, rfl, hN.obj.1, G.cl_Node, G.n_Node_facts, nF_facts, L.lf, us, rfl, .inl (SqL.of hu.1), (us.length : Int), rfl, by omega, by omega, fun D hD => ?_⟩
  refine lc_range (lo := 0) (n := us.length) (fun k H' => H' = upd H D (.lst ((seenL n k).map nI))) rfl ?_ ?_
  · rintro k H1 hk rfl
    rw [Int.zero_add]
    obtain ⟨y, hy⟩ : ∃ y, n.facts[k]? = some y := ⟨n.facts[k]'(by omega), List.getElem?_eq_getElem (by omega)⟩
    obtain ⟨v, hv, ⟨a, rfl, ha⟩⟩ := paired_at hf hy
    have sD := same_up (o := .lst ((seenL n k).map nI)) hD
    refine ⟨rfl, _, rfl, L.a, _, L.dx, _, _, rfl, sD _ _ hN.obj.1, G.cl_Node, G.n_Node_facts, nF_facts, _, rfl, L.lf, us, _, _, rfl, rfl, SqL.of (sD _ _ hu.1), atI_nat hv, a, _, _, _, rfl, rfl, SqT.of (sD _ _ ha), rfl, rfl, _, rfl, ?_⟩
    by_cases c : y.sort = 2
    · refine bF (Bool.eq_false_iff.mpr fun z => (vint_ne (j := 2)).mp z c) ?_
      rw [seenL_no (by rw [fact_of hy]; exact c)]
    · refine bT ((vint_ne (j := 2)).mpr c) ?_
      refine ⟨_, rfl, _, upd_same, ?_, ?_⟩
      · rw [List.length_map]
        exact Nat.lt_of_le_of_lt (Nat.le_trans seenL_len (show k ≤ 5 by omega)) (by decide)
      · rw [upd_upd, seenL_yes (by rw [fact_of hy]; exact c), List.map_append]
        rfl
  · rintro H1 rfl
    rw [eu]
    exact q D hD
theorem ok_Node_seen (G : Pg K mg) : FnOk P w K mg base CX0 1 G.f_Node_seen G.fd_Node_seen ["self"] (sp_Node_seen G) := by
  refine G.F_Node_seen.ok sc_Node_seen (fun vs H Q E h => len_Node_seen h) (fun cdv A outer s H vs Q E hr h => ⟨t_Node_seen G, bd_Node_seen G hr, rd_Node_seen G h⟩)
end

end Wt
namespace Wt
open PySem PySem.Spec PyProof.Rows L2
section
variable {P : Program} {w : World} {K : PySem.W.Frag} {mg : Str → Option Value} {base : Heap}
variable {G : Pg K mg} {T : Tg → Prop} {g g' : Gh} {H H' H0 : Hp} {W : WL} {s : Ag11.State}
/-! ### Node.numbers -/
def relL (r : Ag11.Relay) : List Nat := [r.num, r.for_, r.theirs]
def probeL : Option Ag11.Probe → List Nat
  | none => [0]
  | some p => 1 :: askL p
def nodeL (n : Ag11.Node) : List Nat := [Ag11.bit n.up, n.own, n.count, n.clock] ++ (Ag11.flat n.facts ++ (n.since ++ (probeL n.probe ++ (n.relays.length :: n.relays.flatMap relL))))
/-- the new list D, whatever else is new -/
structure Grow (H : Hp) (D : Addr) (xs : List Nat) (H' : Hp) : Prop where
  fr : H D = none
  sm : Same H H'
  lt : H' D = some (.lst (xs.map nI))
theorem Grow.ext {D : Addr} {xs ys : List Nat} {zs : List V} (h : Grow H D xs H') (e : zs = ys.map nI) : Grow H D (xs ++ ys) (upd H' D (.lst (xs.map nI ++ zs))) := by
  refine ⟨h.fr, fun b o z => ?_, ?_⟩
  · rw [upd_ne (ne_of_none z h.fr)]
    exact h.sm b o z
  · rw [upd_same, List.map_append, e]
theorem Grow.new {D p : Addr} {xs : List Nat} {o : HO} (h : Grow H D xs H') (hp : H' p = none) : Grow H D xs (upd H' p o) :=
  ⟨h.fr, h.sm.trans (same_up hp), by rw [upd_ne (ne_of_none h.lt hp)]; exact h.lt⟩
theorem sz {n : Nat} (h : n ≤ 100000) : n ≤ sizeLine := Nat.le_trans h (by decide)
theorem szl {n : Nat} (h : n ≤ 100000) : n < sizeLine := Nat.lt_of_le_of_lt h (by decide)
theorem upd_id {a : Addr} {o : HO} (h : H a = some o) : upd H a o = H := by
  funext b
  unfold upd
  by_cases c : b = a
  · rw [if_pos c, c, h]
  · rw [if_neg c]
theorem rel_val : ∀ {kvs : List (Key × V)} {rs : List Ag11.Relay}, Paired (RelAt H) kvs rs → rs.Pairwise (fun a b => ¬ a.num = b.num) → ∀ {i : Nat} {k : Key} {v : V}, kvs[i]? = some (k, v) → valV kvs k = some v
  | _, _, .nil, _, i, k, v, e => by simp at e
  | (k0, v0) :: kvs, r :: rs, .cons h hs, hp, 0, k, v, e => by
    have e : (k0, v0) = (k, v) := Option.some.inj e
    cases e
    exact valV_pos rfl
  | (k0, v0) :: kvs, r :: rs, .cons h hs, hp, i + 1, k, v, e => by
    have e : kvs[i]? = some (k, v) := e
    obtain ⟨hp1, hp2⟩ := List.pairwise_cons.mp hp
    obtain ⟨r', hr', k1, _⟩ := paired_atL hs e
    have d : ¬ k0 = k := fun z => hp1 r' (List.mem_of_getElem? hr') (by
      have k1 : k = Sum.inl (r'.num : Int) := k1
      rw [show k0 = Sum.inl (r.num : Int) from h.1, k1] at z
      injection z with z
      omega)
    rw [valV_neg (p := (k0, v0)) d]
    exact rel_val hs hp2 e
theorem relL_take {rs : List Ag11.Relay} {i : Nat} {r : Ag11.Relay} (h : rs[i]? = some r) : (rs.take (i + 1)).flatMap relL = (rs.take i).flatMap relL ++ relL r := by
  rw [take_more h, List.flatMap_append, List.flatMap_cons, List.flatMap_nil, List.append_nil]
theorem relL_len : ∀ {rs : List Ag11.Relay}, (rs.flatMap relL).length = 3 * rs.length
  | [] => rfl
  | r :: rs => by
    rw [List.flatMap_cons, List.length_append, relL_len, List.length_cons]
    show 3 + 3 * rs.length = _
    omega
theorem probeL_len {p : Option Ag11.Probe} : (probeL p).length ≤ 5 := by
  cases p with
  | none => show 1 ≤ 5; decide
  | some p => show 5 ≤ 5; decide
/-- from the count of those whom it asks for others on -/
theorem rd_Node_numbers_4 (G : Pg K mg) {Q : VK} {L : NL} {i : Nat} {n : Ag11.Node} {D : Addr} {xs : List Nat} {v2 v3 : Option V} (hN : NodeAt G g H L i n) (hr3 : n.relays.length ≤ 1000) (hpw : n.relays.Pairwise fun a b => ¬ a.num = b.num)
    (hx : xs.length ≤ 100) (gr : Grow H D xs H') (q : Told H (xs ++ (n.relays.length :: n.relays.flatMap relL)) Q) :
    (tSeq (tDrop (tBM K "list" rAppend (tVar 1) (tCons (tCB rLenD (tCons (tFld K (tVar 0) "for_others") tNil)) tNil)))
    (tSeq (tLock (tFor (iKeys (tFld K (tVar 0) "for_others")) (gName 2) (tSeq (tAsg (tDGet (tFld K (tVar 0) "for_others") (tVar 2)) (gName 3))
    (tDrop (tBM K "list" rExtend (tVar 1) (tCons (tLst (tCons (tVar 2) (tCons (tOp (rIxT K) (tVar 3) (tC (.int 0))) (tCons (tOp (rIxT K) (tVar 3) (tC (.int 1))) tNil)))) tNil))))))
    (tRet (tVar 1)))) { nx := fun _ H' => Q .non H', rt := Q } [some (.ref L.a), some (.ref D), v2, v3] H' := by
  obtain ⟨kvs, hd, hr⟩ := hN.dct
  have ek : kvs.length = n.relays.length := paired_len hr
  refine ⟨_, rfl, .inl ⟨rfl, _, SqL.of gr.lt⟩, _, rfl, L.a, _, L.dx, _, _, rfl, gr.sm _ _ hN.obj.1, G.cl_Node, G.n_Node_for_others, nF_for_others, L.ld, kvs, rfl, gr.sm _ _ hd.1, D, _, _, rfl, rfl, gr.lt, ?_, ?_⟩
  · rw [List.length_map]
    exact szl (by omega)
  have gr5 := gr.ext (ys := [n.relays.length]) (zs := [V.int (kvs.length : Int)]) (by rw [ek]; rfl)
  generalize upd H' D (.lst (xs.map nI ++ [V.int (kvs.length : Int)])) = H5 at gr5 ⊢
  have hd5 := gr5.sm _ _ hd.1
  have nad : L.a ≠ L.ld := ne_of hN.obj.1 hd.1 (by intro z; cases z)
  have nDd : D ≠ L.ld := fun e => by
    have := gr5.fr
    rw [e, hd.1] at this
    cases this
  refine ⟨L.ld, .dK kvs, hd5, True.intro, fun od => ?_⟩
  refine ⟨_, rfl, L.a, _, L.dx, _, _, rfl, (by rw [upd_ne nad]; exact gr5.sm _ _ hN.obj.1), G.cl_Node, G.n_Node_for_others, nF_for_others, L.ld, od, rfl, .inl ⟨kvs, upd_same,
    for_it walk_keys (fun k σ H' => ∃ v2 v3, σ = [some (.ref L.a), some (.ref D), v2, v3] ∧ H' L.ld = some (.frz od (.dK kvs)) ∧ Grow H D (xs ++ [n.relays.length] ++ (n.relays.take k).flatMap relL) (upd H' L.ld (.dK kvs)))
      ⟨_, _, rfl, upd_same, ?_⟩ ?_ ?_ ?_⟩⟩
  · rw [upd_upd, upd_id hd5]
    show Grow H D (xs ++ [n.relays.length] ++ []) H5
    rw [List.append_nil]
    exact gr5
  · rintro k σ H' _ ⟨_, _, _, hf, _⟩
    exact hf
  · rintro k x σ H6 H7 hk ⟨v2, v3, rfl, hf, g6⟩ ⟨rfl, key, v, hkv, rfl⟩
    obtain ⟨r, hr1, hr2, t, e3, ht⟩ := paired_atL hr hkv
    have hr2 : key = Sum.inl (r.num : Int) := hr2
    have e3 : v = .ref t := e3
    subst hr2 e3
    have old : ∀ b o, H b = some o → b ≠ L.ld → H7 b = some o := fun b o e nb => by
      have z := g6.sm b o e
      rw [upd_ne nb] at z
      exact z
    have ntd : t ≠ L.ld := ne_of ht hd.1 (by intro z; cases z)
    have ht7 := old t _ ht ntd
    have hD7 : H7 D = some (.lst ((xs ++ [n.relays.length] ++ (n.relays.take k).flatMap relL).map nI)) := by
      have z := g6.lt
      rw [upd_ne nDd] at z
      exact z
    refine ⟨_, rfl, L.a, _, L.dx, _, _, rfl, old _ _ hN.obj.1 nad, G.cl_Node, G.n_Node_for_others, nF_for_others, _, rfl, L.ld, .ref t, rfl, .inl ⟨kvs, Sum.inl (r.num : Int), .inr ⟨od, hf⟩, rfl, (rel_val hr hpw hkv).symm⟩, ?_⟩
    refine ⟨_, rfl, .inl ⟨rfl, _, SqL.of hD7⟩, _, rfl, _, rfl, t, _, _, _, rfl, rfl, SqT.of ht7, rfl, _, rfl, t, _, _, _, rfl, rfl, SqT.of ht7, rfl, (by show 3 ≤ sizeLine; decide), fun B hB => ?_⟩
    have nDB : D ≠ B := ne_of_none hD7 hB
    have ndB : L.ld ≠ B := ne_of_none hf hB
    refine ⟨D, B, _, _, rfl, rfl, (by rw [upd_ne nDB]; exact hD7), upd_same, ?_, ?_⟩
    · rw [List.length_map, List.length_append, List.length_append, relL_len, List.length_take]
      show xs.length + 1 + 3 * min k n.relays.length + 3 ≤ sizeLine
      exact sz (by omega)
    · refine ⟨_, _, rfl, ?_, ?_⟩
      · rw [upd_ne nDd.symm, upd_ne ndB]
        exact hf
      · rw [upd_comm nDd, upd_comm ndB.symm, relL_take hr1, ← List.append_assoc]
        exact (g6.new (by rw [upd_ne ndB.symm]; exact hB)).ext (ys := relL r) rfl
  · rintro σ H6 ⟨v2, v3, rfl, hf, g6⟩
    refine ⟨hf, _, rfl, ?_⟩
    refine q _ D g6.sm g6.fr ?_
    rw [g6.lt, ek, List.take_of_length_le (Nat.le_refl _), List.append_assoc]
    rfl
/-- from the facts on -/
theorem rd_Node_numbers_1 (G : Pg K mg) {Q : VK} {L : NL} {i : Nat} {n : Ag11.Node} {D : Addr} {xs : List Nat} {v2 v3 : Option V} (hN : NodeAt G g H L i n) (h5 : n.facts.length ≤ 5) (h6 : n.since.length ≤ 5) (hr3 : n.relays.length ≤ 1000) (hpw : n.relays.Pairwise fun a b => ¬ a.num = b.num)
    (hx : xs.length ≤ 4) (gr : Grow H D xs H') (q : Told H (xs ++ (Ag11.flat n.facts ++ (n.since ++ (probeL n.probe ++ (n.relays.length :: n.relays.flatMap relL))))) Q) :
    (tSeq (tDrop (tBM K "list" rExtend (tVar 1) (tCons (tCall (sp_one_behind_another G) [] E0 (tCons (tFld K (tVar 0) "facts") tNil)) tNil)))
    (tSeq (tDrop (tBM K "list" rExtend (tVar 1) (tCons (tFld K (tVar 0) "since") tNil)))
    (tSeq (tIfS (tTest (tOp rIsN (tFld K (tVar 0) "asking") (tC .non))) (tDrop (tBM K "list" rAppend (tVar 1) (tCons (tC (.int 0)) tNil))) (tSeq (tDrop (tBM K "list" rAppend (tVar 1) (tCons (tC (.int 1)) tNil)))
    (tDrop (tBM K "list" rExtend (tVar 1) (tCons (tMeth G.CAsking "numbers" (sp_Asking_numbers G) [] E0 (tFld K (tVar 0) "asking") tNil) tNil)))))
    (tSeq (tDrop (tBM K "list" rAppend (tVar 1) (tCons (tCB rLenD (tCons (tFld K (tVar 0) "for_others") tNil)) tNil)))
    (tSeq (tLock (tFor (iKeys (tFld K (tVar 0) "for_others")) (gName 2) (tSeq (tAsg (tDGet (tFld K (tVar 0) "for_others") (tVar 2)) (gName 3))
    (tDrop (tBM K "list" rExtend (tVar 1) (tCons (tLst (tCons (tVar 2) (tCons (tOp (rIxT K) (tVar 3) (tC (.int 0))) (tCons (tOp (rIxT K) (tVar 3) (tC (.int 1))) tNil)))) tNil))))))
    (tRet (tVar 1))))))) { nx := fun _ H' => Q .non H', rt := Q } [some (.ref L.a), some (.ref D), v2, v3] H' := by
  obtain ⟨us, hu, hf⟩ := hN.fct
  refine ⟨_, rfl, .inl ⟨rfl, _, SqL.of gr.lt⟩, _, rfl, L.a, _, L.dx, _, _, rfl, gr.sm _ _ hN.obj.1, G.cl_Node, G.n_Node_facts, nF_facts, ?_⟩
  refine ⟨L.lf, us, n.facts.map factL, rfl, gr.sm _ _ hu.1, facts_parts (hf.keep (T := fun _ => False) (g := g) (Mv.same gr.sm)), facts_small h5, fun B hB => ?_⟩
  have nDB : D ≠ B := ne_of_none gr.lt hB
  refine ⟨D, B, _, _, rfl, rfl, (by rw [upd_ne nDB]; exact gr.lt), upd_same, ?_, ?_⟩
  · rw [facts_flat, List.length_map, List.length_map, flat_len]
    exact sz (by omega)
  have gr2 := (gr.new (o := .lst (n.facts.map factL).flatten) hB).ext (facts_flat (fs := n.facts))
  generalize upd (upd H' B (.lst (n.facts.map factL).flatten)) D (.lst (xs.map nI ++ (n.facts.map factL).flatten)) = H2 at gr2 ⊢
  refine ⟨_, rfl, .inl ⟨rfl, _, SqL.of gr2.lt⟩, _, rfl, L.a, _, L.dx, _, _, rfl, gr2.sm _ _ hN.obj.1, G.cl_Node, G.n_Node_since, nF_since, D, L.ls, _, _, rfl, rfl, gr2.lt, gr2.sm _ _ hN.snc.1, ?_, ?_⟩
  · rw [List.length_map, List.length_map, List.length_append, flat_len]
    exact sz (by omega)
  have gr3 := gr2.ext (ys := n.since) rfl
  generalize upd H2 D (.lst ((xs ++ Ag11.flat n.facts).map nI ++ n.since.map nI)) = H3 at gr3 ⊢
  have l3 : (xs ++ Ag11.flat n.facts ++ n.since).length ≤ 19 := by
    rw [List.length_append, List.length_append, flat_len]
    omega
  have q2 : Told H ((xs ++ Ag11.flat n.facts ++ n.since ++ probeL n.probe) ++ (n.relays.length :: n.relays.flatMap relL)) Q := by
    rw [List.append_assoc, List.append_assoc, List.append_assoc]
    exact q
  have l4 : (xs ++ Ag11.flat n.facts ++ n.since ++ probeL n.probe).length ≤ 100 := by
    have := probeL_len (p := n.probe)
    rw [List.length_append]
    omega
  generalize hys : xs ++ Ag11.flat n.facts ++ n.since = ys at gr3 l3 q2 l4
  refine ⟨_, rfl, L.a, _, L.dx, _, _, rfl, gr3.sm _ _ hN.obj.1, G.cl_Node, G.n_Node_asking, nF_asking, rfl, _, rfl, ?_⟩
  have hA := hN.ask
  cases hp : n.probe with
  | none =>
    rw [hp] at hA q2 l4
    refine bT (by rw [show L.q = .non from hA]; rfl) ?_
    refine ⟨_, rfl, .inl ⟨rfl, _, SqL.of gr3.lt⟩, D, _, .int 0, rfl, rfl, gr3.lt, (by rw [List.length_map]; exact szl (by omega)), ?_⟩
    exact rd_Node_numbers_4 G hN hr3 hpw l4 (gr3.ext (ys := probeL none) rfl) q2
  | some p =>
    rw [hp] at hA q2 l4
    obtain ⟨a, dx, ea, ha⟩ := hA
    refine bF (by rw [ea]; rfl) ?_
    refine ⟨_, rfl, .inl ⟨rfl, _, SqL.of gr3.lt⟩, D, _, .int 1, rfl, rfl, gr3.lt, (by rw [List.length_map]; exact szl (by omega)), ?_⟩
    have gr4 := gr3.ext (ys := [1]) (zs := [V.int 1]) rfl
    generalize upd H3 D (.lst (ys.map nI ++ [V.int 1])) = H4 at gr4 ⊢
    refine ⟨_, rfl, .inl ⟨rfl, _, SqL.of gr4.lt⟩, _, rfl, L.a, _, L.dx, _, _, rfl, gr4.sm _ _ hN.obj.1, G.cl_Node, G.n_Node_asking, nF_asking, a, dx, _, ea, gr4.sm _ _ ha.1, aF_no_numbers, ?_⟩
    refine ⟨a, dx, p, congrArg (fun v => [v]) ea, gr4.sm _ _ ha.1, fun C hC => ?_⟩
    have nDC : D ≠ C := ne_of_none gr4.lt hC
    refine ⟨D, C, _, _, rfl, rfl, (by rw [upd_ne nDC]; exact gr4.lt), upd_same, ?_, ?_⟩
    · rw [List.length_map, List.length_map, List.length_append]
      show ys.length + 1 + 4 ≤ sizeLine
      exact sz (by omega)
    have gr5 := (gr4.new (o := .lst ((askL p).map nI)) hC).ext (ys := askL p) rfl
    refine rd_Node_numbers_4 G hN hr3 hpw l4 ?_ q2
    rw [List.append_assoc] at gr5
    exact gr5
def sp_Node_numbers (G : Pg K mg) : Sp := fun vs H Q _ => ∃ (g : Gh) (L : NL) (i : Nat) (n : Ag11.Node), vs = [.ref L.a] ∧ NodeAt G g H L i n ∧ n.facts.length ≤ 5 ∧ n.since.length ≤ 5 ∧ n.relays.length ≤ 1000 ∧ (n.relays.Pairwise fun a b => ¬ a.num = b.num) ∧ Told H (nodeL n) Q
theorem len_Node_numbers {vs : List V} {Q : VK} {E : XK} (h : sp_Node_numbers G vs H Q E) : vs.length = (["self"] : List Str).length := by
  obtain ⟨g, L, i, n, rfl, _⟩ := h
  rfl
theorem rd_Node_numbers (G : Pg K mg) {vs : List V} {H : Hp} {Q : VK} {E : XK} (h : sp_Node_numbers G vs H Q E) : (t_Node_numbers G (sp_one_behind_another G) (sp_Asking_numbers G)) { nx := fun _ H' => Q .non H', rt := Q } (start ["self", "told", "number", "errand"] vs) H := by
  obtain ⟨g, L, i, n, rfl, hN, h5, h6, hr3, hpw, q⟩ := h
  refine ⟨_, rfl, L.a, _, L.dx, _, _, rfl, hN.obj.1, G.cl_Node, G.n_Node_runs, nF_runs, _, rfl, ?_⟩
  have ho := hN.obj.1
  have fin : ∀ D, H D = none → ∀ z : Int, z = ((Ag11.bit n.up : Nat) : Int) → Grow H D [Ag11.bit n.up, n.own, n.count, n.clock] (upd H D (.lst [.int z, .int n.own, .int n.count, .int n.clock])) := fun D hD z e => by
    subst e
    exact ⟨hD, same_up hD, upd_same⟩
  unfold nodeL at q
  cases c : n.up with
  | true =>
    refine bT rfl ?_
    refine ⟨_, rfl, L.a, _, L.dx, _, _, rfl, ho, G.cl_Node, G.n_Node_own, nF_own, _, rfl, L.a, _, L.dx, _, _, rfl, ho, G.cl_Node, G.n_Node_asked, nF_asked, _, rfl, L.a, _, L.dx, _, _, rfl, ho, G.cl_Node, G.n_Node_clock, nF_clock, (by show 4 ≤ sizeLine; decide), fun D hD => ?_⟩
    exact rd_Node_numbers_1 G hN h5 h6 hr3 hpw (by show 4 ≤ 4; decide) (fin D hD 1 (by rw [c]; rfl)) q
  | false =>
    refine bF rfl ?_
    refine ⟨_, rfl, L.a, _, L.dx, _, _, rfl, ho, G.cl_Node, G.n_Node_own, nF_own, _, rfl, L.a, _, L.dx, _, _, rfl, ho, G.cl_Node, G.n_Node_asked, nF_asked, _, rfl, L.a, _, L.dx, _, _, rfl, ho, G.cl_Node, G.n_Node_clock, nF_clock, (by show 4 ≤ sizeLine; decide), fun D hD => ?_⟩
    exact rd_Node_numbers_1 G hN h5 h6 hr3 hpw (by show 4 ≤ 4; decide) (fin D hD 0 (by rw [c]; rfl)) q
theorem ok_Node_numbers (G : Pg K mg) : FnOk P w K mg base CX0 2 G.f_Node_numbers G.fd_Node_numbers ["self"] (sp_Node_numbers G) := by
  refine G.F_Node_numbers.ok sc_Node_numbers (fun vs H Q E h => len_Node_numbers h) (fun cdv A outer s H vs Q E hr h => ⟨t_Node_numbers G (sp_one_behind_another G) (sp_Asking_numbers G), bd_Node_numbers G (ok_one_behind_another G) (ok_Asking_numbers G) hr, rd_Node_numbers G h⟩)
end

end Wt
namespace Wt
open PySem PySem.Spec PyProof.Rows L2
section
variable {P : Program} {w : World} {K : PySem.W.Frag} {mg : Str → Option Value} {base : Heap}
variable {G : Pg K mg} {T : Tg → Prop} {g g' : Gh} {H H' H0 : Hp} {W : WL} {s : Ag11.State}
/-! ### begin_anew -/
theorem rep_set {α : Type} {n i : Nat} {x : α} : (List.replicate n x).set i x = List.replicate n x := by
  apply List.ext_getElem?
  intro j
  rw [List.getElem?_set]
  by_cases c : i = j
  · subst c
    rw [if_pos rfl, List.length_replicate, List.getElem?_replicate]
  · rw [if_neg c]
def emptied (n : Ag11.Node) (N : Nat) : Ag11.Node := { n with clock := 0, facts := List.replicate N ⟨0, 0⟩, since := List.replicate N 0, probe := none, relays := [] }
def sp_Node_begin_anew (G : Pg K mg) : Sp := fun vs H Q _ => ∃ (g : Gh) (L : NL) (i : Nat) (n : Ag11.Node), vs = [.ref L.a] ∧ NodeAt G g H L i n ∧ n.facts.length ≤ 5 ∧ i < n.facts.length ∧
  ∀ (g' : Gh) (H' : Hp) (L' : NL), L'.a = L.a → NodeAt G g' H' L' i (Ag11.fresh n.facts.length (n.own + 1) n.count i) → Mv (grp i) g H g' H' → Q .non H'
theorem len_Node_begin_anew {vs : List V} {Q : VK} {E : XK} (h : sp_Node_begin_anew G vs H Q E) : vs.length = (["self"] : List Str).length := by
  obtain ⟨g, L, i, n, rfl, _⟩ := h
  rfl
theorem rd_Node_begin_anew (G : Pg K mg) {vs : List V} {H : Hp} {Q : VK} {E : XK} (h : sp_Node_begin_anew G vs H Q E) : (t_Node_begin_anew G (sp_Node_forget G) (sp_Node_learn G)) { nx := fun _ H' => Q .non H', rt := Q } (start ["self"] vs) H := by
  obtain ⟨g, L, i, n, rfl, hN, h5, hi, q⟩ := h
  obtain ⟨us, hu, hf⟩ := hN.fct
  have eu : us.length = n.facts.length := paired_len hf
  generalize hNN : n.facts.length = N at h5 hi q eu
  refine ⟨_, rfl, L.a, L.dx, _, rfl, hN.obj.1, nF_no_forget, _, rfl, L.a, _, L.dx, _, _, rfl, hN.obj.1, G.cl_Node, G.n_Node_facts, nF_facts, L.lf, us, rfl, .inl (SqL.of hu.1), ?_⟩
  refine ⟨L.a, L.dx, _, us.length, rfl, hN.obj.1, (by show 9 ≤ 9; decide), by omega, fun H1 lf ls ld ws kp f1 f2 f3 n1 n2 n3 o1 o2 o3 o4 o5 => ?_⟩
  rw [eu] at o3 o4
  unfold forgot at o1
  rw [nF_put_clock, nF_put_facts, nF_put_since, nF_put_asking, nF_put_for_others] at o1
  -- the new tags
  have nal : ∀ l, H l = none → L.a ≠ l := fun l e => ne_of_none hN.obj.1 e
  have m1 : Mv (grp i) g H (tag (tag (tag g lf (.facts i)) ls (.since i)) ld (.dict i)) H1 := fun b o e => by
    have e3 : b ≠ lf := ne_of_none e f1
    have e4 : b ≠ ls := ne_of_none e f2
    have e5 : b ≠ ld := ne_of_none e f3
    refine ⟨by rw [tag_ne e5, tag_ne e4, tag_ne e3], ?_, fun c => ?_⟩
    · by_cases d : b = L.a
      · rw [d]
        exact ⟨_, o1⟩
      · exact ⟨o, kp b o e d⟩
    · have d : b ≠ L.a := fun z => by
        subst z
        rcases c with c | c
        · rw [hN.obj.2] at c
          exact c rfl
        · rw [hN.obj.1] at e
          cases e
          exact c
      exact kp b o e d
  have hE : NodeAt G (tag (tag (tag g lf (.facts i)) ls (.since i)) ld (.dict i)) H1 { L with lf := lf, ls := ls, ld := ld, q := .non } i (emptied n N) := by
    refine ⟨⟨o1, ?_⟩, ⟨ws, ⟨o2, ?_⟩, o3⟩, ⟨?_, ?_⟩, rfl, ⟨[], ⟨o5, tag_same⟩, .nil⟩⟩
    · rw [tag_ne (nal _ f3), tag_ne (nal _ f2), tag_ne (nal _ f1)]
      exact hN.obj.2
    · rw [tag_ne n2, tag_ne n1, tag_same]
    · show H1 ls = some (.lst ((List.replicate N 0).map nI))
      rw [List.map_replicate]
      exact o4
    · rw [tag_ne n3, tag_same]
  generalize tag (tag (tag g lf (.facts i)) ls (.since i)) ld (.dict i) = g1 at m1 hE
  generalize hL' : ({ L with lf := lf, ls := ls, ld := ld, q := .non } : NL) = L1 at hE
  have ea : L1.a = L.a := by rw [← hL']
  have ed : L1.dx = L.dx := by rw [← hL']
  have ho := hE.obj.1
  rw [ea, ed] at ho
  refine ⟨_, rfl, L.a, _, L.dx, _, rfl, ho, G.cl_Node, G.n_Node_runs, (by show 9 < 1000; decide), ?_⟩
  rw [nF_put_runs]
  obtain ⟨r2, m2⟩ := hE.scal { emptied n N with up := true } rfl rfl rfl rfl
  rw [ea, ed] at r2 m2
  generalize hH2 : upd H1 L.a (.ins G.CNode L.dx (nFn i { emptied n N with up := true } L1)) = H2 at r2 m2 ⊢
  have ho2 := r2.obj.1
  rw [ea, ed] at ho2
  refine ⟨_, rfl, L.a, _, L.dx, _, _, rfl, ho2, G.cl_Node, G.n_Node_own, nF_own, _, _, rfl, rfl, L.dx, _, ho2, (by show 9 < 1000; decide), ?_⟩
  rw [nF_put_own]
  obtain ⟨r3, m3⟩ := r2.scal { emptied n N with up := true, own := n.own + 1 } rfl rfl rfl rfl
  rw [ea, ed] at r3 m3
  have ho3 := r3.obj.1
  rw [ea, ed] at ho3
  refine ⟨_, rfl, L.a, L.dx, _, rfl, ho3, nF_no_learn, _, rfl, L.a, _, L.dx, _, _, rfl, ho3, G.cl_Node, G.n_Node_me, nF_me, _, rfl, L.a, _, L.dx, _, _, rfl, ho3, G.cl_Node, G.n_Node_own, nF_own, ?_⟩
  refine ⟨g1, L1, i, _, i, ⟨n.own + 1, 0⟩, ?_, r3, ?_, ?_, fun H4 r4 m4 => ?_⟩
  · rw [ea]
    rfl
  · show i < (List.replicate N (⟨0, 0⟩ : Ag11.Fact)).length
    rw [List.length_replicate]
    exact hi
  · show i < (List.replicate N 0).length
    rw [List.length_replicate]
    exact hi
  · refine q g1 H4 L1 ea ?_ (((m1.trans m2).trans m3).trans m4)
    have e : Ag11.learn { emptied n N with up := true, own := n.own + 1 } i ⟨n.own + 1, 0⟩ = Ag11.fresh N (n.own + 1) n.count i := by
      unfold Ag11.learn Ag11.fresh emptied
      show (⟨true, n.own + 1, n.count, 0, (List.replicate N ⟨0, 0⟩).set i ⟨n.own + 1, 0⟩, (List.replicate N 0).set i 0, none, []⟩ : Ag11.Node) = _
      rw [rep_set]
    rw [← e]
    exact r4
theorem ok_Node_begin_anew (G : Pg K mg) : FnOk P w K mg base CX0 2 G.f_Node_begin_anew G.fd_Node_begin_anew ["self"] (sp_Node_begin_anew G) := by
  refine G.F_Node_begin_anew.ok sc_Node_begin_anew (fun vs H Q E h => len_Node_begin_anew h) (fun cdv A outer s H vs Q E hr h => ⟨t_Node_begin_anew G (sp_Node_forget G) (sp_Node_learn G), bd_Node_begin_anew G (ok_Node_forget G) (ok_Node_learn G) hr, rd_Node_begin_anew G h⟩)
/-! ### stop_node, start_node -/
def sp_World_stop_node (G : Pg K mg) : Sp := fun vs H Q _ => ∃ (H0 : Hp) (g : Gh) (W : WL) (s : Ag11.State) (k t : Nat), vs = [.ref W.w, .int k] ∧ WorldAt G H0 g H W s ∧ Good t s ∧ t ≤ 1000 ∧ Ret G H0 W.w (Ag11.step (some s) (.halt_ k)) Q
theorem len_World_stop_node {vs : List V} {Q : VK} {E : XK} (h : sp_World_stop_node G vs H Q E) : vs.length = (["self", "k"] : List Str).length := by
  obtain ⟨H0, g, W, s, k, t, rfl, _⟩ := h
  rfl
theorem rd_World_stop_node (G : Pg K mg) {vs : List V} {H : Hp} {Q : VK} {E : XK} (h : sp_World_stop_node G vs H Q E) : (t_World_stop_node G (sp_World_has_node G)) { nx := fun _ H' => Q .non H', rt := Q } (start ["self", "k", "node"] vs) H := by
  obtain ⟨H0, g, W, s, k, t, rfl, hW, hG, ht, q⟩ := h
  refine ⟨_, rfl, W.w, W.dx, _, rfl, hW.obj.1, wF_no_has_node, _, rfl, ?_⟩
  refine ⟨H0, g, W, s, k, rfl, hW, ?_⟩
  refine ⟨_, rfl, ?_⟩
  by_cases c : k < s.nodes.length
  · refine nF' c ?_
    obtain ⟨n, hn⟩ := node_in c
    obtain ⟨L, hL, hN⟩ := hW.at hn
    refine ⟨_, rfl, W.w, _, W.dx, _, _, rfl, hW.obj.1, G.cl_World, G.n_World_nodes, wF_nodes, _, rfl, W.ln, _, _, _, rfl, rfl, SqL.of hW.nds.1, atI_nat (maps_at hL), ?_⟩
    refine ⟨_, rfl, L.a, _, L.dx, _, _, rfl, hN.obj.1, G.cl_Node, G.n_Node_runs, nF_runs, _, rfl, ?_⟩
    cases hu : n.up with
    | false =>
      refine q g H W s (-2) ?_ rfl hW
      show (if Ag11.count s ≤ k then _ else if (Ag11.node s k).up = false then _ else _) = _
      rw [node_of hn, if_neg (show ¬ Ag11.count s ≤ k by unfold Ag11.count; omega), if_pos hu]
    | true =>
      refine bF rfl ?_
      refine ⟨_, rfl, L.a, _, L.dx, _, rfl, hN.obj.1, G.cl_Node, G.n_Node_runs, (by show 9 < 1000; decide), ?_⟩
      rw [nF_put_runs]
      obtain ⟨r1, m1⟩ := hN.scal { n with up := false } rfl rfl rfl rfl
      refine q g _ W _ 0 ?_ rfl (hW.node0 m1 hL r1)
      show (if Ag11.count s ≤ k then _ else if (Ag11.node s k).up = false then _ else (some (Ag11.setNode s k { Ag11.node s k with up := false }), [(0 : Int)])) = _
      rw [node_of hn, if_neg (show ¬ Ag11.count s ≤ k by unfold Ag11.count; omega), if_neg (by rw [hu]; intro z; cases z)]
  · refine nT c ?_
    refine q g H W s (-1) ?_ rfl hW
    show (if Ag11.count s ≤ k then _ else _) = _
    rw [if_pos (show Ag11.count s ≤ k by unfold Ag11.count; omega)]
theorem ok_World_stop_node (G : Pg K mg) : FnOk P w K mg base CX0 2 G.f_World_stop_node G.fd_World_stop_node ["self", "k"] (sp_World_stop_node G) := by
  refine G.F_World_stop_node.ok sc_World_stop_node (fun vs H Q E h => len_World_stop_node h) (fun cdv A outer s H vs Q E hr h => ⟨t_World_stop_node G (sp_World_has_node G), bd_World_stop_node G (ok_World_has_node G) hr, rd_World_stop_node G h⟩)
def sp_World_start_node (G : Pg K mg) : Sp := fun vs H Q _ => ∃ (H0 : Hp) (g : Gh) (W : WL) (s : Ag11.State) (k t : Nat), vs = [.ref W.w, .int k] ∧ WorldAt G H0 g H W s ∧ Good t s ∧ t ≤ 1000 ∧ Ret G H0 W.w (Ag11.step (some s) (.start k)) Q
theorem len_World_start_node {vs : List V} {Q : VK} {E : XK} (h : sp_World_start_node G vs H Q E) : vs.length = (["self", "k"] : List Str).length := by
  obtain ⟨H0, g, W, s, k, t, rfl, _⟩ := h
  rfl
theorem rd_World_start_node (G : Pg K mg) {vs : List V} {H : Hp} {Q : VK} {E : XK} (h : sp_World_start_node G vs H Q E) : (t_World_start_node G (sp_Node_begin_anew G) (sp_World_has_node G)) { nx := fun _ H' => Q .non H', rt := Q } (start ["self", "k", "node"] vs) H := by
  obtain ⟨H0, g, W, s, k, t, rfl, hW, hG, ht, q⟩ := h
  refine ⟨_, rfl, W.w, W.dx, _, rfl, hW.obj.1, wF_no_has_node, _, rfl, ?_⟩
  refine ⟨H0, g, W, s, k, rfl, hW, ?_⟩
  refine ⟨_, rfl, ?_⟩
  by_cases c : k < s.nodes.length
  · refine nF' c ?_
    obtain ⟨n, hn⟩ := node_in c
    obtain ⟨L, hL, hN⟩ := hW.at hn
    obtain ⟨ng, _⟩ := hG.nd k n hn
    refine ⟨_, rfl, W.w, _, W.dx, _, _, rfl, hW.obj.1, G.cl_World, G.n_World_nodes, wF_nodes, _, rfl, W.ln, _, _, _, rfl, rfl, SqL.of hW.nds.1, atI_nat (maps_at hL), ?_⟩
    refine ⟨_, rfl, L.a, _, L.dx, _, _, rfl, hN.obj.1, G.cl_Node, G.n_Node_runs, nF_runs, _, rfl, ?_⟩
    cases hu : n.up with
    | true =>
      refine bT rfl ?_
      refine q g H W s (-2) ?_ rfl hW
      show (if Ag11.count s ≤ k then _ else if (Ag11.node s k).up = true then _ else _) = _
      rw [node_of hn, if_neg (show ¬ Ag11.count s ≤ k by unfold Ag11.count; omega), if_pos hu]
    | false =>
      refine bF rfl ?_
      refine ⟨_, rfl, L.a, L.dx, _, rfl, hN.obj.1, nF_no_begin_anew, ?_⟩
      have nf := ng.fl
      refine ⟨g, L, k, n, rfl, hN, by rw [nf]; exact hG.hi, by rw [nf]; exact c, fun g1 H1 L1 ea r1 m1 => ?_⟩
      have ho := r1.obj.1
      rw [ea] at ho
      refine ⟨_, rfl, L.a, _, L1.dx, _, _, rfl, ho, G.cl_Node, G.n_Node_own, nF_own, ?_⟩
      refine q g1 H1 { W with Ls := W.Ls.set k L1 } _ _ ?_ rfl (hW.node m1 hL ea r1)
      show (if Ag11.count s ≤ k then _ else if (Ag11.node s k).up = true then _ else (some (Ag11.setNode s k (Ag11.fresh (Ag11.count s) ((Ag11.node s k).own + 1) (Ag11.node s k).count k)), [(((Ag11.node s k).own + 1 : Nat) : Int)])) = _
      rw [node_of hn, if_neg (show ¬ Ag11.count s ≤ k by unfold Ag11.count; omega), if_neg (by rw [hu]; intro z; cases z), nf]
      rfl
  · refine nT c ?_
    refine q g H W s (-1) ?_ rfl hW
    show (if Ag11.count s ≤ k then _ else _) = _
    rw [if_pos (show Ag11.count s ≤ k by unfold Ag11.count; omega)]
theorem ok_World_start_node (G : Pg K mg) : FnOk P w K mg base CX0 3 G.f_World_start_node G.fd_World_start_node ["self", "k"] (sp_World_start_node G) := by
  refine G.F_World_start_node.ok sc_World_start_node (fun vs H Q E h => len_World_start_node h) (fun cdv A outer s H vs Q E hr h => ⟨t_World_start_node G (sp_Node_begin_anew G) (sp_World_has_node G), bd_World_start_node G (ok_Node_begin_anew G) (ok_World_has_node G) hr, rd_World_start_node G h⟩)
/-! ### what is told of a world -/
def TellI (H : Hp) (ns : List Int) (Q : VK) : Prop := ∀ (H' : Hp) (p : Addr), Same H H' → H p = none → H' p = some (.lst (ns.map V.int)) → Q (.ref p) H'
theorem nums_map {l : List Nat} : (Ag11.nums l).map V.int = l.map nI := by
  unfold Ag11.nums
  rw [List.map_map]
  rfl
theorem TellI.told {l : List Nat} {Q : VK} (h : TellI H (Ag11.nums l) Q) : Told H l Q := fun H' p h1 h2 h3 => h H' p h1 h2 (by rw [nums_map]; exact h3)
def lettersL (s : Ag11.State) : List Nat := s.letters.length :: s.letters.flatMap letterL
theorem letters_is : (Ag11.step (some s) .letters).2 = Ag11.nums (lettersL s) := rfl
def sp_World_tell_letters (G : Pg K mg) : Sp := fun vs H Q _ => ∃ (H0 : Hp) (g : Gh) (W : WL) (s : Ag11.State) (t : Nat), vs = [.ref W.w] ∧ WorldAt G H0 g H W s ∧ Good t s ∧ t ≤ 1000 ∧ TellI H (Ag11.step (some s) .letters).2 Q
theorem len_World_tell_letters {vs : List V} {Q : VK} {E : XK} (h : sp_World_tell_letters G vs H Q E) : vs.length = (["self"] : List Str).length := by
  obtain ⟨H0, g, W, s, t, rfl, _⟩ := h
  rfl
def OwnPart (D : Addr) (H : Hp) (v : V) (n : List V) : Prop := ∃ a, v = .ref a ∧ a ≠ D ∧ H a = some (.lst n)
theorem letterL_len {x : Ag11.Letter} (h : x.facts.length ≤ 5) : (letterL x).length ≤ 15 := by
  unfold letterL
  rw [List.length_append, flat_len]
  show 5 + 2 * x.facts.length ≤ 15
  omega
theorem rd_World_tell_letters (G : Pg K mg) {vs : List V} {H : Hp} {Q : VK} {E : XK} (h : sp_World_tell_letters G vs H Q E) : (t_World_tell_letters G (sp_one_behind_another G) (sp_Letter_numbers G)) { nx := fun _ H' => Q .non H', rt := Q } (start ["self", "letter"] vs) H := by
  obtain ⟨H0, g, W, s, t, rfl, hW, hG, ht, q⟩ := h
  rw [letters_is] at q
  have q := q.told
  obtain ⟨rs, hr, hl⟩ := hW.row
  have er : rs.length = s.letters.length := paired_len hl
  have h100 := hG.ll
  refine ⟨_, rfl, W.w, _, W.dx, _, _, rfl, hW.obj.1, G.cl_World, G.n_World_row, wF_row, W.lr, rs, rfl, .inl (SqL.of hr.1), (by show 1 ≤ sizeLine; decide), fun A hA => ?_⟩
  have sA := same_up (o := .lst [V.int (rs.length : Int)]) hA
  generalize hH1 : upd H A (.lst [V.int (rs.length : Int)]) = H1 at sA ⊢
  have hA1 : H1 A = some (.lst [V.int (rs.length : Int)]) := by
    rw [← hH1, upd_same]
  refine ⟨_, rfl, W.w, _, W.dx, _, _, rfl, sA _ _ hW.obj.1, G.cl_World, G.n_World_row, wF_row, W.lr, rfl, ⟨rs, SqL.of (sA _ _ hr.1)⟩, fun D hD => ?_⟩
  refine lc_list (K := K) (a := W.lr) (xs := rs) (fun k H' => ∃ qs, H' D = some (.lst qs) ∧ Paired (OwnPart D H') qs ((s.letters.take k).map fun x => (letterL x).map nI) ∧ Same H1 H')
    ⟨[], upd_same, .nil, same_up hD⟩ ?_ ?_ ?_
  · rintro k H2 _ ⟨qs, _, _, s2⟩
    exact SqL.of (s2 _ _ (sA _ _ hr.1))
  · rintro k v H2 hv ⟨qs, k1, k2, k3⟩
    obtain ⟨x, hx, hX⟩ := paired_atL hl hv
    have lx := hG.lt x (List.mem_of_getElem? hx)
    have hX2 : LetterAt G g H2 v x := hX.keep (T := fun _ => False) (Mv.same (sA.trans k3)) (fun z => z)
    obtain ⟨p, dx, l, us, rfl, hp, _, _⟩ := id hX2
    refine ⟨rfl, _, rfl, p, dx, _, rfl, hp.1, lF_no_numbers, ?_⟩
    refine ⟨g, _, x, rfl, hX2, by rw [lx.fl]; exact hG.hi, fun H3 B s3 hB hB3 => ?_⟩
    have nDB : D ≠ B := ne_of_none k1 hB
    have el : qs.length = ((s.letters.take k).map fun x => (letterL x).map nI).length := paired_len k2
    refine ⟨qs, s3 _ _ k1, ?_, qs ++ [.ref B], upd_same, ?_, fun b o e => ?_⟩
    · rw [el, List.length_map, List.length_take]
      exact szl (by omega)
    · rw [take_more hx, List.map_append]
      refine paired_snoc (paired_mono (fun v n z => ?_) k2) ⟨B, rfl, nDB.symm, by rw [upd_ne nDB.symm]; exact hB3⟩
      obtain ⟨a, e1, e2, e3⟩ := z
      exact ⟨a, e1, e2, by rw [upd_ne e2]; exact s3 _ _ e3⟩
    · rw [upd_ne (ne_of_none e hD)]
      exact s3 _ _ (k3 b o e)
  · rintro H2 ⟨qs, k1, k2, k3⟩
    rw [er, List.take_of_length_le (Nat.le_refl _)] at k2
    have fl : (s.letters.map fun x => (letterL x).map nI).flatten = (s.letters.flatMap letterL).map nI := by
      rw [← List.flatMap_def, List.map_flatMap]
    have fz : (s.letters.map fun x => (letterL x).map nI).flatten.length ≤ 1500 := by
      have z := flat_le (c := 15) (l := s.letters.map fun x => (letterL x).map nI) (fun y hy => by
        obtain ⟨x, hx, rfl⟩ := List.mem_map.mp hy
        rw [List.length_map]
        exact letterL_len (by rw [(hG.lt x hx).fl]; exact hG.hi))
      rw [List.length_map] at z
      omega
    refine ⟨D, qs, _, rfl, k1, paired_mono (fun v n ⟨a, e1, _, e3⟩ => ⟨a, e1, .inl e3⟩) k2, by omega, fun B hB => ?_⟩
    have nAB : A ≠ B := ne_of_none (k3 _ _ hA1) hB
    refine ⟨A, B, _, _, rfl, rfl, (by rw [upd_ne nAB]; exact k3 _ _ hA1), upd_same, ?_, fun C hC => ?_⟩
    · show 1 + _ ≤ sizeLine
      exact sz (by omega)
    · have sB := same_up (o := .lst (s.letters.map fun x => (letterL x).map nI).flatten) hB
      refine q _ C (((sA.trans k3).trans sB).trans (same_up hC)) (((sA.trans k3).trans sB).free hC) ?_
      rw [upd_same, fl, er]
      rfl
theorem ok_World_tell_letters (G : Pg K mg) : FnOk P w K mg base CX0 3 G.f_World_tell_letters G.fd_World_tell_letters ["self"] (sp_World_tell_letters G) := by
  refine G.F_World_tell_letters.ok sc_World_tell_letters (fun vs H Q E h => len_World_tell_letters h) (fun cdv A outer s H vs Q E hr h => ⟨t_World_tell_letters G (sp_one_behind_another G) (sp_Letter_numbers G), bd_World_tell_letters G (ok_one_behind_another G) (ok_Letter_numbers G) hr, rd_World_tell_letters G h⟩)
/-! ### tell_blames -/
def blameL (b : Ag11.Blame) : List Nat := [b.who, b.whom, b.num]
def blamesL (s : Ag11.State) : List Nat := s.blames.length :: s.blames.flatMap blameL
theorem blames_is : (Ag11.step (some s) .blames).2 = Ag11.nums (blamesL s) := rfl
def sp_World_tell_blames (G : Pg K mg) : Sp := fun vs H Q _ => ∃ (H0 : Hp) (g : Gh) (W : WL) (s : Ag11.State) (t : Nat), vs = [.ref W.w] ∧ WorldAt G H0 g H W s ∧ Good t s ∧ t ≤ 1000 ∧ TellI H (Ag11.step (some s) .blames).2 Q
theorem len_World_tell_blames {vs : List V} {Q : VK} {E : XK} (h : sp_World_tell_blames G vs H Q E) : vs.length = (["self"] : List Str).length := by
  obtain ⟨H0, g, W, s, t, rfl, _⟩ := h
  rfl
theorem rd_World_tell_blames (G : Pg K mg) {vs : List V} {H : Hp} {Q : VK} {E : XK} (h : sp_World_tell_blames G vs H Q E) : (t_World_tell_blames G (sp_one_behind_another G)) { nx := fun _ H' => Q .non H', rt := Q } (start ["self"] vs) H := by
  obtain ⟨H0, g, W, s, t, rfl, hW, hG, ht, q⟩ := h
  rw [blames_is] at q
  have q := q.told
  obtain ⟨bs, hb, hl⟩ := hW.blm
  have eb : bs.length = s.blames.length := paired_len hl
  have hbl := hG.bl
  refine ⟨_, rfl, W.w, _, W.dx, _, _, rfl, hW.obj.1, G.cl_World, G.n_World_blamed, wF_blamed, W.lb, bs, rfl, .inl (SqL.of hb.1), (by show 1 ≤ sizeLine; decide), fun A hA => ?_⟩
  have sA := same_up (o := .lst [V.int (bs.length : Int)]) hA
  have fl : (s.blames.map fun x => (blameL x).map nI).flatten = (s.blames.flatMap blameL).map nI := by
    rw [← List.flatMap_def, List.map_flatMap]
  have fz : (s.blames.map fun x => (blameL x).map nI).flatten.length ≤ 3000 := by
    have z := flat_le (c := 3) (l := s.blames.map fun x => (blameL x).map nI) (fun y hy => by
      obtain ⟨x, hx, rfl⟩ := List.mem_map.mp hy
      exact Nat.le_refl 3)
    rw [List.length_map] at z
    omega
  refine ⟨_, rfl, W.w, _, W.dx, _, _, rfl, sA _ _ hW.obj.1, G.cl_World, G.n_World_blamed, wF_blamed, ?_⟩
  refine ⟨W.lb, bs, s.blames.map fun x => (blameL x).map nI, rfl, sA _ _ hb.1, paired_map (fun _ _ ⟨t, e, h⟩ => ⟨t, e, .inr (sA _ _ h)⟩) hl, by omega, fun B hB => ?_⟩
  have nAB : A ≠ B := fun e => by
    rw [← e, upd_same] at hB
    cases hB
  refine ⟨A, B, _, _, rfl, rfl, (by rw [upd_ne nAB]; exact upd_same), upd_same, ?_, fun C hC => ?_⟩
  · show 1 + _ ≤ sizeLine
    exact sz (by omega)
  · have sB := same_up (o := .lst (s.blames.map fun x => (blameL x).map nI).flatten) hB
    refine q _ C ((sA.trans sB).trans (same_up hC)) ((sA.trans sB).free hC) ?_
    rw [upd_same, fl, eb]
    rfl
theorem ok_World_tell_blames (G : Pg K mg) : FnOk P w K mg base CX0 2 G.f_World_tell_blames G.fd_World_tell_blames ["self"] (sp_World_tell_blames G) := by
  refine G.F_World_tell_blames.ok sc_World_tell_blames (fun vs H Q E h => len_World_tell_blames h) (fun cdv A outer s H vs Q E hr h => ⟨t_World_tell_blames G (sp_one_behind_another G), bd_World_tell_blames G (ok_one_behind_another G) hr, rd_World_tell_blames G h⟩)
/-! ### tell_node, tell_seen -/
theorem node_step {k : Nat} {n : Ag11.Node} (hn : s.nodes[k]? = some n) (c : k < s.nodes.length) : (Ag11.step (some s) (.node k)).2 = Ag11.nums (nodeL n) := by
  show (if Ag11.count s ≤ k then [-1] else Ag11.nums ([Ag11.bit (Ag11.node s k).up, (Ag11.node s k).own, (Ag11.node s k).count, (Ag11.node s k).clock] ++ (Ag11.flat (Ag11.node s k).facts ++ ((Ag11.node s k).since ++ ((match (Ag11.node s k).probe with
      | none => [0]
      | some p => [1, p.whom, p.num, p.since, Ag11.bit p.helped]) ++ ((Ag11.node s k).relays.length :: (Ag11.node s k).relays.flatMap fun (r : Ag11.Relay) => [r.num, r.for_, r.theirs])))))) = _
  rw [if_neg (show ¬ Ag11.count s ≤ k by unfold Ag11.count; omega), node_of hn]
  unfold nodeL
  cases n.probe with
  | none => rfl
  | some p => rfl
theorem tell_no {k : Nat} {x : Ag11.Call} {Q : VK} (hx : x = .node k ∨ x = .sees k) (c : ¬ k < s.nodes.length) (q : TellI H (Ag11.step (some s) x).2 Q) : [V.int (-1)].length ≤ sizeLine ∧ ∀ p, H p = none → Q (.ref p) (upd H p (.lst [V.int (-1)])) := by
  have e : (Ag11.step (some s) x).2 = [-1] := by
    have z : Ag11.count s ≤ k := by unfold Ag11.count; omega
    rcases hx with rfl | rfl
    · exact if_pos z
    · exact if_pos z
  rw [e] at q
  exact ⟨by show 1 ≤ sizeLine; decide, fun p hp => q _ p (same_up hp) hp upd_same⟩
def sp_World_tell_node (G : Pg K mg) : Sp := fun vs H Q _ => ∃ (H0 : Hp) (g : Gh) (W : WL) (s : Ag11.State) (k t : Nat), vs = [.ref W.w, .int k] ∧ WorldAt G H0 g H W s ∧ Good t s ∧ t ≤ 1000 ∧ TellI H (Ag11.step (some s) (.node k)).2 Q
theorem len_World_tell_node {vs : List V} {Q : VK} {E : XK} (h : sp_World_tell_node G vs H Q E) : vs.length = (["self", "k"] : List Str).length := by
  obtain ⟨H0, g, W, s, k, t, rfl, _⟩ := h
  rfl
theorem rd_World_tell_node (G : Pg K mg) {vs : List V} {H : Hp} {Q : VK} {E : XK} (h : sp_World_tell_node G vs H Q E) : (t_World_tell_node G (sp_Node_numbers G) (sp_World_has_node G)) { nx := fun _ H' => Q .non H', rt := Q } (start ["self", "k"] vs) H := by
  obtain ⟨H0, g, W, s, k, t, rfl, hW, hG, ht, q⟩ := h
  refine ⟨_, rfl, W.w, W.dx, _, rfl, hW.obj.1, wF_no_has_node, _, rfl, ?_⟩
  refine ⟨H0, g, W, s, k, rfl, hW, ?_⟩
  refine ⟨_, rfl, ?_⟩
  by_cases c : k < s.nodes.length
  · refine nF' c ?_
    obtain ⟨n, hn⟩ := node_in c
    obtain ⟨L, hL, hN⟩ := hW.at hn
    obtain ⟨ng, nt⟩ := hG.nd k n hn
    rw [node_step hn c] at q
    refine ⟨_, rfl, W.w, _, W.dx, _, _, rfl, hW.obj.1, G.cl_World, G.n_World_nodes, wF_nodes, _, rfl, W.ln, _, _, _, rfl, rfl, SqL.of hW.nds.1, atI_nat (maps_at hL), ?_⟩
    refine ⟨L.a, L.dx, _, rfl, hN.obj.1, nF_no_numbers, ?_⟩
    exact ⟨g, L, k, n, rfl, hN, by rw [ng.fl]; exact hG.hi, by rw [ng.sl]; exact hG.hi, Nat.le_trans (Nat.le_trans ng.rc nt) ht, ng.rn, q.told⟩
  · refine nT c ?_
    exact tell_no (.inl rfl) c q
theorem ok_World_tell_node (G : Pg K mg) : FnOk P w K mg base CX0 3 G.f_World_tell_node G.fd_World_tell_node ["self", "k"] (sp_World_tell_node G) := by
  refine G.F_World_tell_node.ok sc_World_tell_node (fun vs H Q E h => len_World_tell_node h) (fun cdv A outer s H vs Q E hr h => ⟨t_World_tell_node G (sp_Node_numbers G) (sp_World_has_node G), bd_World_tell_node G (ok_Node_numbers G) (ok_World_has_node G) hr, rd_World_tell_node G h⟩)
def seesL (n : Ag11.Node) (N : Nat) : List Nat := (seenL n N).length :: seenL n N
theorem sees_step {k : Nat} {n : Ag11.Node} (hn : s.nodes[k]? = some n) (c : k < s.nodes.length) : (Ag11.step (some s) (.sees k)).2 = Ag11.nums (seesL n s.nodes.length) := by
  show (if Ag11.count s ≤ k then [-1] else Ag11.nums (seesL (Ag11.node s k) (Ag11.count s))) = _
  rw [if_neg (show ¬ Ag11.count s ≤ k by unfold Ag11.count; omega), node_of hn]
  rfl
def sp_World_tell_seen (G : Pg K mg) : Sp := fun vs H Q _ => ∃ (H0 : Hp) (g : Gh) (W : WL) (s : Ag11.State) (k t : Nat), vs = [.ref W.w, .int k] ∧ WorldAt G H0 g H W s ∧ Good t s ∧ t ≤ 1000 ∧ TellI H (Ag11.step (some s) (.sees k)).2 Q
theorem len_World_tell_seen {vs : List V} {Q : VK} {E : XK} (h : sp_World_tell_seen G vs H Q E) : vs.length = (["self", "k"] : List Str).length := by
  obtain ⟨H0, g, W, s, k, t, rfl, _⟩ := h
  rfl
theorem rd_World_tell_seen (G : Pg K mg) {vs : List V} {H : Hp} {Q : VK} {E : XK} (h : sp_World_tell_seen G vs H Q E) : (t_World_tell_seen G (sp_Node_seen G) (sp_World_has_node G)) { nx := fun _ H' => Q .non H', rt := Q } (start ["self", "k", "seen"] vs) H := by
  obtain ⟨H0, g, W, s, k, t, rfl, hW, hG, ht, q⟩ := h
  refine ⟨_, rfl, W.w, W.dx, _, rfl, hW.obj.1, wF_no_has_node, _, rfl, ?_⟩
  refine ⟨H0, g, W, s, k, rfl, hW, ?_⟩
  refine ⟨_, rfl, ?_⟩
  by_cases c : k < s.nodes.length
  · refine nF' c ?_
    obtain ⟨n, hn⟩ := node_in c
    obtain ⟨L, hL, hN⟩ := hW.at hn
    obtain ⟨ng, nt⟩ := hG.nd k n hn
    have h5 := hG.hi
    rw [sees_step hn c] at q
    have q := q.told
    refine ⟨_, rfl, W.w, _, W.dx, _, _, rfl, hW.obj.1, G.cl_World, G.n_World_nodes, wF_nodes, _, rfl, W.ln, _, _, _, rfl, rfl, SqL.of hW.nds.1, atI_nat (maps_at hL), ?_⟩
    refine ⟨L.a, L.dx, _, rfl, hN.obj.1, nF_no_seen, ?_⟩
    refine ⟨g, L, k, n, rfl, hN, by rw [ng.fl]; exact h5, fun B hB => ?_⟩
    rw [ng.fl]
    have sB := same_up (o := .lst ((seenL n s.nodes.length).map nI)) hB
    refine ⟨_, rfl, B, _, rfl, .inl (SqL.of upd_same), (by show 1 ≤ sizeLine; decide), fun A hA => ?_⟩
    have nAB : B ≠ A := fun e => by
      rw [← e, upd_same] at hA
      cases hA
    have ls := seenL_len (n := n) (k := s.nodes.length)
    refine ⟨_, rfl, A, B, _, _, rfl, rfl, upd_same, (by rw [upd_ne nAB]; exact upd_same), ?_, fun C hC => ?_⟩
    · rw [List.length_map]
      show 1 + _ ≤ sizeLine
      exact sz (by omega)
    · refine q _ C ((sB.trans (same_up hA)).trans (same_up hC)) ((sB.trans (same_up hA)).free hC) ?_
      rw [upd_same, List.length_map]
      rfl
  · refine nT c ?_
    exact tell_no (.inr rfl) c q
theorem ok_World_tell_seen (G : Pg K mg) : FnOk P w K mg base CX0 2 G.f_World_tell_seen G.fd_World_tell_seen ["self", "k"] (sp_World_tell_seen G) := by
  refine G.F_World_tell_seen.ok sc_World_tell_seen (fun vs H Q E h => len_World_tell_seen h) (fun cdv A outer s H vs Q E hr h => ⟨t_World_tell_seen G (sp_Node_seen G) (sp_World_has_node G), bd_World_tell_seen G (ok_Node_seen G) (ok_World_has_node G) hr, rd_World_tell_seen G h⟩)
end

end Wt
namespace Wt
open PySem PySem.Spec PyProof.Rows L2
/-! ### calls, as numbers -/
inductive CallIs : List Int → Ag11.Call → Prop
  | begin_ (n wt pt : Nat) : CallIs [0, (n : Int), (wt : Int), (pt : Int)] (.begin_ n wt pt)
  | probe (i j : Nat) : CallIs [1, (i : Int), (j : Int)] (.probe i j)
  | tick (i : Nat) : CallIs [2, (i : Int)] (.tick i)
  | take (k : Nat) : CallIs [3, (k : Int)] (.take k)
  | keep (k : Nat) : CallIs [4, (k : Int)] (.keep k)
  | lose (k : Nat) : CallIs [5, (k : Int)] (.lose k)
  | halt_ (i : Nat) : CallIs [6, (i : Int)] (.halt_ i)
  | start (i : Nat) : CallIs [7, (i : Int)] (.start i)
  | letters : CallIs [8] .letters
  | node (i : Nat) : CallIs [9, (i : Int)] (.node i)
  | sees (i : Nat) : CallIs [10, (i : Int)] (.sees i)
  | blames : CallIs [11] .blames
theorem within_nat {z lo hi : Int} (h : NeutralIO.within z lo hi = true) (h0 : 0 ≤ lo) : ∃ n : Nat, z = (n : Int) := by
  unfold NeutralIO.within at h
  rw [Bool.and_eq_true] at h
  exact Int.eq_ofNat_of_zero_le (Int.le_trans h0 (of_decide_eq_true h.1))
theorem nine_nat {z : Int} (h : Ag11Neutral.nine z = true) : ∃ n : Nat, z = (n : Int) := within_nat h (Int.le_refl 0)
theorem callIs_of {c : List Int} (h : Ag11Neutral.asked1 [c] = true) : ∃ x, CallIs c x ∧ Ag11Neutral.callOf [c] = some x := by
  unfold Ag11Neutral.asked1 at h
  split at h
  · rename_i n wt pt e
    cases e
    rw [Bool.and_eq_true, Bool.and_eq_true] at h
    obtain ⟨a, rfl⟩ := nine_nat h.1
    obtain ⟨b, rfl⟩ := within_nat h.2.1 (Int.le_refl 0)
    obtain ⟨d, rfl⟩ := within_nat h.2.2 (Int.le_refl 0)
    exact ⟨_, .begin_ a b d, rfl⟩
  · rename_i i j e
    cases e
    rw [Bool.and_eq_true] at h
    obtain ⟨a, rfl⟩ := nine_nat h.1
    obtain ⟨b, rfl⟩ := nine_nat h.2
    exact ⟨_, .probe a b, rfl⟩
  · rename_i i e
    cases e
    obtain ⟨a, rfl⟩ := nine_nat h
    exact ⟨_, .tick a, rfl⟩
  · rename_i i e
    cases e
    obtain ⟨a, rfl⟩ := within_nat h (Int.le_refl 0)
    exact ⟨_, .take a, rfl⟩
  · rename_i i e
    cases e
    obtain ⟨a, rfl⟩ := within_nat h (Int.le_refl 0)
    exact ⟨_, .keep a, rfl⟩
  · rename_i i e
    cases e
    obtain ⟨a, rfl⟩ := within_nat h (Int.le_refl 0)
    exact ⟨_, .lose a, rfl⟩
  · rename_i i e
    cases e
    obtain ⟨a, rfl⟩ := nine_nat h
    exact ⟨_, .halt_ a, rfl⟩
  · rename_i i e
    cases e
    obtain ⟨a, rfl⟩ := nine_nat h
    exact ⟨_, .start a, rfl⟩
  · rename_i e
    cases e
    exact ⟨_, .letters, rfl⟩
  · rename_i i e
    cases e
    obtain ⟨a, rfl⟩ := nine_nat h
    exact ⟨_, .node a, rfl⟩
  · rename_i i e
    cases e
    obtain ⟨a, rfl⟩ := nine_nat h
    exact ⟨_, .sees a, rfl⟩
  · rename_i e
    cases e
    exact ⟨_, .blames, rfl⟩
  · cases h
theorem whole_id (c : List (List Int)) : PyAg11.whole c = c := by
  unfold PyAg11.whole
  split <;> rfl
theorem shape_rows {p : Int} {n k : Nat} (h : PyAg11.shape p = some (n, k)) : k = 0 := by
  unfold PyAg11.shape at h
  repeat' split at h
  all_goals first | (cases h; rfl) | cases h
theorem parse_cons {f : Nat} {p : Int} {r : List Int} {cs : List (List (List Int))} (h : PyFlat.calls PyAg11.shape (f + 1) (p :: r) = some cs) :
    ∃ n cs', n ≤ r.length ∧ cs = [p :: r.take n] :: cs' ∧ PyFlat.calls PyAg11.shape f (r.drop n) = some cs' := by
  unfold PyFlat.calls at h
  cases e1 : PyFlat.call PyAg11.shape (p :: r) with
  | none =>
    rw [e1] at h
    cases h
  | some ct =>
    obtain ⟨c, t⟩ := ct
    rw [e1] at h
    have h : (match PyFlat.calls PyAg11.shape f t with
      | none => none
      | some cs => some (c :: cs)) = some cs := h
    cases e2 : PyFlat.calls PyAg11.shape f t with
    | none =>
      rw [e2] at h
      cases h
    | some cs' =>
      rw [e2] at h
      have h3 : c :: cs' = cs := Option.some.inj h
      unfold PyFlat.call at e1
      have e1 : (match PyAg11.shape p with
        | none => none
        | some (n, k) => if r.length < n then none else match PyFlat.rows k (r.drop n) with
          | none => none
          | some (xs, t) => some ((p :: r.take n) :: xs, t)) = some (c, t) := e1
      cases e3 : PyAg11.shape p with
      | none =>
        rw [e3] at e1
        cases e1
      | some nk =>
        obtain ⟨n, k⟩ := nk
        rw [e3] at e1
        have k0 := shape_rows e3
        subst k0
        have e1 : (if r.length < n then none else some ((p :: r.take n) :: [], r.drop n)) = some (c, t) := e1
        by_cases l : r.length < n
        · rw [if_pos l] at e1
          cases e1
        · rw [if_neg l] at e1
          have e4 := Option.some.inj e1
          cases e4
          exact ⟨n, cs', by omega, h3.symm, e2⟩
/-- what is left to be played: from o the calls cs -/
def tell (o : Ag11.Abs) (cs : List (List (List Int))) : List Int := PyFlat.told (PyFlat.played Ag11Neutral.step o cs)
theorem tell_cons {o : Ag11.Abs} {c : List Int} {x : Ag11.Call} {cs : List (List (List Int))} (h : Ag11Neutral.callOf [c] = some x) : tell o ([c] :: cs) = (((Ag11.step o x).2.length : Nat) : Int) :: ((Ag11.step o x).2 ++ tell (Ag11.step o x).1 cs) := by
  have e : Ag11Neutral.step o [c] = Ag11.step o x := by
    unfold Ag11Neutral.step
    rw [h]
  unfold tell PyFlat.told
  show List.flatMap _ ((Ag11Neutral.step o [c]).2 :: PyFlat.played Ag11Neutral.step (Ag11Neutral.step o [c]).1 cs) = _
  rw [e, List.flatMap_cons]
  rfl
section
variable {P : Program} {w : World} {K : PySem.W.Frag} {mg : Str → Option Value} {base : Heap}
variable {G : Pg K mg} {T : Tg → Prop} {g g' : Gh} {H H' H0 : Hp} {W : WL} {s : Ag11.State}
/-! ### change, tell -/
def sp_change (G : Pg K mg) : Sp := fun vs H Q _ => ∃ (H0 : Hp) (g : Gh) (W : WL) (s : Ag11.State) (t : Nat) (c : Int) (a : List Int) (x : Ag11.Call) (p : Addr), vs = [.ref W.w, .int c, .ref p] ∧ WorldAt G H0 g H W s ∧ Good t s ∧ t ≤ 1000 ∧ H p = some (.lst (a.map V.int)) ∧ CallIs (c :: a) x ∧ ¬ c = 0 ∧ c < 8 ∧
  Ret G H0 W.w (Ag11.step (some s) x) Q
theorem len_change {vs : List V} {Q : VK} {E : XK} (h : sp_change G vs H Q E) : vs.length = (["world", "call", "told"] : List Str).length := by
  obtain ⟨H0, g, W, s, t, c, a, x, p, rfl, _⟩ := h
  rfl
theorem rd_change (G : Pg K mg) {vs : List V} {H : Hp} {Q : VK} {E : XK} (h : sp_change G vs H Q E) : (t_change G (sp_World_start_node G) (sp_World_probe G) (sp_World_tick G) (sp_World_take G) (sp_World_keep G) (sp_World_lose G) (sp_World_stop_node G)) { nx := fun _ H' => Q .non H', rt := Q } (start ["world", "call", "told"] vs) H := by
  obtain ⟨H0, g, W, s, t, c, a, x, p, rfl, hW, hG, ht, hp', hC, c0, low, ret⟩ := h
  refine ⟨_, rfl, rfl, _, rfl, ?_⟩
  by_cases c1 : c = 1
  · subst c1
    cases hC with
    | probe i j =>
      refine bT rfl ?_
      refine ⟨_, rfl, W.w, W.dx, _, rfl, hW.obj.1, wF_no_probe, _, rfl, p, _, _, _, rfl, rfl, SqL.of hp', rfl, _, rfl, p, _, _, _, rfl, rfl, SqL.of hp', rfl, ?_⟩
      exact ⟨_, g, W, s, i, j, t, rfl, hW, hG, ht, ret⟩
  refine bF (by rw [decide_eq_false_iff_not]; intro z; injection z with z; exact c1 z) ?_
  refine ⟨_, rfl, rfl, _, rfl, ?_⟩
  by_cases c2 : c = 2
  · subst c2
    cases hC with
    | tick i =>
      refine bT rfl ?_
      refine ⟨_, rfl, W.w, W.dx, _, rfl, hW.obj.1, wF_no_tick, _, rfl, p, _, _, _, rfl, rfl, SqL.of hp', rfl, ?_⟩
      exact ⟨_, g, W, s, i, t, rfl, hW, hG, ht, ret⟩
  refine bF (by rw [decide_eq_false_iff_not]; intro z; injection z with z; exact c2 z) ?_
  refine ⟨_, rfl, rfl, _, rfl, ?_⟩
  by_cases c3 : c = 3
  · subst c3
    cases hC with
    | take i =>
      refine bT rfl ?_
      refine ⟨_, rfl, W.w, W.dx, _, rfl, hW.obj.1, wF_no_take, _, rfl, p, _, _, _, rfl, rfl, SqL.of hp', rfl, ?_⟩
      exact ⟨_, g, W, s, i, t, rfl, hW, hG, ht, ret⟩
  refine bF (by rw [decide_eq_false_iff_not]; intro z; injection z with z; exact c3 z) ?_
  refine ⟨_, rfl, rfl, _, rfl, ?_⟩
  by_cases c4 : c = 4
  · subst c4
    cases hC with
    | keep i =>
      refine bT rfl ?_
      refine ⟨_, rfl, W.w, W.dx, _, rfl, hW.obj.1, wF_no_keep, _, rfl, p, _, _, _, rfl, rfl, SqL.of hp', rfl, ?_⟩
      exact ⟨_, g, W, s, i, t, rfl, hW, hG, ht, ret⟩
  refine bF (by rw [decide_eq_false_iff_not]; intro z; injection z with z; exact c4 z) ?_
  refine ⟨_, rfl, rfl, _, rfl, ?_⟩
  by_cases c5 : c = 5
  · subst c5
    cases hC with
    | lose i =>
      refine bT rfl ?_
      refine ⟨_, rfl, W.w, W.dx, _, rfl, hW.obj.1, wF_no_lose, _, rfl, p, _, _, _, rfl, rfl, SqL.of hp', rfl, ?_⟩
      exact ⟨_, g, W, s, i, t, rfl, hW, hG, ht, ret⟩
  refine bF (by rw [decide_eq_false_iff_not]; intro z; injection z with z; exact c5 z) ?_
  refine ⟨_, rfl, rfl, _, rfl, ?_⟩
  by_cases c6 : c = 6
  · subst c6
    cases hC with
    | halt_ i =>
      refine bT rfl ?_
      refine ⟨_, rfl, W.w, W.dx, _, rfl, hW.obj.1, wF_no_stop_node, _, rfl, p, _, _, _, rfl, rfl, SqL.of hp', rfl, ?_⟩
      exact ⟨_, g, W, s, i, t, rfl, hW, hG, ht, ret⟩
  refine bF (by rw [decide_eq_false_iff_not]; intro z; injection z with z; exact c6 z) ?_
  cases hC with
  | start i =>
    refine ⟨_, rfl, W.w, W.dx, _, rfl, hW.obj.1, wF_no_start_node, _, rfl, p, _, _, _, rfl, rfl, SqL.of hp', rfl, ?_⟩
    exact ⟨_, g, W, s, i, t, rfl, hW, hG, ht, ret⟩
  | begin_ => exact absurd rfl c0
  | probe => exact absurd rfl c1
  | tick => exact absurd rfl c2
  | take => exact absurd rfl c3
  | keep => exact absurd rfl c4
  | lose => exact absurd rfl c5
  | halt_ => exact absurd rfl c6
  | _ => exact absurd low (by decide)
theorem ok_change (G : Pg K mg) : FnOk P w K mg base CX0 7 G.f_change G.fd_change ["world", "call", "told"] (sp_change G) := by
  refine G.F_change.ok sc_change (fun vs H Q E h => len_change h) (fun cdv A outer s H vs Q E hr h => ⟨t_change G (sp_World_start_node G) (sp_World_probe G) (sp_World_tick G) (sp_World_take G) (sp_World_keep G) (sp_World_lose G) (sp_World_stop_node G), bd_change G (ok_World_start_node G) (ok_World_probe G) (ok_World_tick G) (ok_World_take G) (ok_World_keep G) (ok_World_lose G) (ok_World_stop_node G) hr, rd_change G h⟩)
def sp_tell (G : Pg K mg) : Sp := fun vs H Q _ => ∃ (H0 : Hp) (g : Gh) (W : WL) (s : Ag11.State) (t : Nat) (c : Int) (a : List Int) (x : Ag11.Call) (p : Addr), vs = [.ref W.w, .int c, .ref p] ∧ WorldAt G H0 g H W s ∧ Good t s ∧ t ≤ 1000 ∧ H p = some (.lst (a.map V.int)) ∧ CallIs (c :: a) x ∧ ¬ c < 8 ∧
  TellI H (Ag11.step (some s) x).2 Q
theorem len_tell {vs : List V} {Q : VK} {E : XK} (h : sp_tell G vs H Q E) : vs.length = (["world", "call", "told"] : List Str).length := by
  obtain ⟨H0, g, W, s, t, c, a, x, p, rfl, _⟩ := h
  rfl
theorem rd_tell (G : Pg K mg) {vs : List V} {H : Hp} {Q : VK} {E : XK} (h : sp_tell G vs H Q E) : (t_tell G (sp_World_tell_blames G) (sp_World_tell_letters G) (sp_World_tell_node G) (sp_World_tell_seen G)) { nx := fun _ H' => Q .non H', rt := Q } (start ["world", "call", "told"] vs) H := by
  obtain ⟨H0, g, W, s, t, c, a, x, p, rfl, hW, hG, ht, hp', hC, high, q⟩ := h
  refine ⟨_, rfl, rfl, _, rfl, ?_⟩
  by_cases c8 : c = 8
  · subst c8
    cases hC with
    | letters =>
      refine bT rfl ?_
      refine ⟨_, rfl, W.w, W.dx, _, rfl, hW.obj.1, wF_no_tell_letters, ?_⟩
      exact ⟨_, g, W, s, t, rfl, hW, hG, ht, q⟩
  refine bF (by rw [decide_eq_false_iff_not]; intro z; injection z with z; exact c8 z) ?_
  refine ⟨_, rfl, rfl, _, rfl, ?_⟩
  by_cases c9 : c = 9
  · subst c9
    cases hC with
    | node i =>
      refine bT rfl ?_
      refine ⟨_, rfl, W.w, W.dx, _, rfl, hW.obj.1, wF_no_tell_node, _, rfl, p, _, _, _, rfl, rfl, SqL.of hp', rfl, ?_⟩
      exact ⟨_, g, W, s, i, t, rfl, hW, hG, ht, q⟩
  refine bF (by rw [decide_eq_false_iff_not]; intro z; injection z with z; exact c9 z) ?_
  refine ⟨_, rfl, rfl, _, rfl, ?_⟩
  by_cases c10 : c = 10
  · subst c10
    cases hC with
    | sees i =>
      refine bT rfl ?_
      refine ⟨_, rfl, W.w, W.dx, _, rfl, hW.obj.1, wF_no_tell_seen, _, rfl, p, _, _, _, rfl, rfl, SqL.of hp', rfl, ?_⟩
      exact ⟨_, g, W, s, i, t, rfl, hW, hG, ht, q⟩
  refine bF (by rw [decide_eq_false_iff_not]; intro z; injection z with z; exact c10 z) ?_
  cases hC with
  | blames =>
    refine ⟨_, rfl, W.w, W.dx, _, rfl, hW.obj.1, wF_no_tell_blames, ?_⟩
    exact ⟨_, g, W, s, t, rfl, hW, hG, ht, q⟩
  | letters => exact absurd rfl c8
  | node => exact absurd rfl c9
  | sees => exact absurd rfl c10
  | _ => exact absurd (by decide) high
theorem ok_tell (G : Pg K mg) : FnOk P w K mg base CX0 4 G.f_tell G.fd_tell ["world", "call", "told"] (sp_tell G) := by
  refine G.F_tell.ok sc_tell (fun vs H Q E h => len_tell h) (fun cdv A outer s H vs Q E hr h => ⟨t_tell G (sp_World_tell_blames G) (sp_World_tell_letters G) (sp_World_tell_node G) (sp_World_tell_seen G), bd_tell G (ok_World_tell_blames G) (ok_World_tell_letters G) (ok_World_tell_node G) (ok_World_tell_seen G) hr, rd_tell G h⟩)
theorem LineAt.grow {la : Addr} {o : Ag11.Abs} (h : LineAt G H0 H la o) (l : Same H H') : LineAt G H0 H' la o := by
  cases o with
  | none =>
    obtain ⟨dx, h1, h2, h3⟩ := h
    exact ⟨dx, h1, h2.trans l, l _ _ h3⟩
  | some s =>
    obtain ⟨dx, g, W, h1, h2⟩ := h
    exact ⟨dx, g, W, h1, h2.keep (Mv.same (T := fun _ => False) l) (fun _ z => z)⟩
/-! ### Line.answer -/
def sp_Line_answer (G : Pg K mg) : Sp := fun vs H Q _ => ∃ (H0 : Hp) (la p : Addr) (o : Ag11.Abs) (t : Nat) (c : Int) (a : List Int) (x : Ag11.Call), vs = [.ref la, .int c, .ref p] ∧ LineAt G H0 H la o ∧ GoodO t o ∧ t ≤ 1000 ∧ H0 p = some (.lst (a.map V.int)) ∧ CallIs (c :: a) x ∧
  ∀ (H' : Hp) (q : Addr), LineAt G H0 H' la (Ag11.step o x).1 → H0 q = none → H' q = some (.lst ((Ag11.step o x).2.map V.int)) → Q (.ref q) H'
theorem len_Line_answer {vs : List V} {Q : VK} {E : XK} (h : sp_Line_answer G vs H Q E) : vs.length = (["self", "call", "told"] : List Str).length := by
  obtain ⟨H0, la, p, o, t, c, a, x, rfl, _⟩ := h
  rfl
/-- one number is answered: [..] of it -/
theorem ret_one {la : Addr} {o : Ag11.Abs} {x : Ag11.Call} {z : Int} {Q : VK} (q : ∀ (H' : Hp) (q : Addr), LineAt G H0 H' la (Ag11.step o x).1 → H0 q = none → H' q = some (.lst ((Ag11.step o x).2.map V.int)) → Q (.ref q) H')
    (h : LineAt G H0 H' la (Ag11.step o x).1) (e : (Ag11.step o x).2 = [z]) : [V.int z].length ≤ sizeLine ∧ ∀ p, H' p = none → Q (.ref p) (upd H' p (.lst [V.int z])) := by
  refine ⟨by show 1 ≤ sizeLine; decide, fun p hp => ?_⟩
  refine q _ p ((h.new (x := .lst [V.int z]) hp).less (Same.up (h.same.free hp))) (h.same.free hp) ?_
  rw [upd_same, e]
  rfl
/-- a call on the world that answers one number, seen from the line -/
theorem ret_of {la dx : Addr} {o : Ag11.Abs} {x : Ag11.Call} {s : Ag11.State} {W : WL} {Q : VK} (ho : o = some s) (h0 : H0 la = none)
    (k : ∀ (H' : Hp) (z : Int), LineAt G H0 H' la (Ag11.step o x).1 → (Ag11.step o x).2 = [z] → Q (.int z) H') : Ret G (upd H0 la (.ins G.CLine dx (iF (.ref W.w)))) W.w (Ag11.step (some s) x) Q := by
  intro g' H' W' s' z e w' hW'
  subst ho
  refine k H' z ?_ ?_
  · rw [e]
    exact ⟨dx, g', W', h0, by rw [w']; exact hW'⟩
  · rw [e]
theorem rd_Line_answer (G : Pg K mg) {vs : List V} {H : Hp} {Q : VK} {E : XK} (h : sp_Line_answer G vs H Q E) : (t_Line_answer G (sp_tell G) (sp_Line_begin G) (sp_change G)) { nx := fun _ H' => Q .non H', rt := Q } (start ["self", "call", "told"] vs) H := by
  obtain ⟨H0, la, p, o, t, c, a, x, rfl, hA, hG, ht, hp, hC, q⟩ := h
  have hp' : H p = some (.lst (a.map V.int)) := hA.same p _ hp
  obtain ⟨dx, v, ho⟩ := hA.obj
  refine ⟨_, rfl, rfl, _, rfl, ?_⟩
  by_cases c0 : c = 0
  · subst c0
    cases hC with
    | begin_ n wt pt =>
      refine bT rfl ?_
      refine ⟨_, rfl, la, dx, _, rfl, ho, iF_no_begin, _, rfl, p, _, _, _, rfl, rfl, SqL.of hp', rfl, _, rfl, p, _, _, _, rfl, rfl, SqL.of hp', rfl, _, rfl, p, _, _, _, rfl, rfl, SqL.of hp', rfl, ?_⟩
      exact ⟨H0, la, o, n, wt, pt, rfl, hA, fun H' z h1 h2 => ret_one q h1 h2⟩
  · refine bF (by rw [decide_eq_false_iff_not]; intro z; injection z with z; exact c0 z) ?_
    refine ⟨_, rfl, la, _, dx, _, _, rfl, ho, G.cl_Line, G.n_Line_world, iF_world, rfl, _, rfl, ?_⟩
    cases o with
    | none =>
      obtain ⟨dx2, h1, h2, h3⟩ := id hA
      rw [ho] at h3
      have ev : v = .non := by
        have e1 := Option.some.inj h3
        injection e1 with _ _ e2
        have e3 : (iF v).lookup ("world" : Str) = (iF .non).lookup ("world" : Str) := by rw [e2]
        rw [iF_world, iF_world] at e3
        exact Option.some.inj e3
      subst ev
      refine bT rfl ?_
      have e : Ag11.step none x = (none, [-9]) := by
        cases hC with
        | begin_ n wt pt => exact absurd rfl c0
        | _ => rfl
      refine ret_one (z := -9) q ?_ ?_
      · rw [e]
        exact hA
      · rw [e]
    | some s =>
      obtain ⟨dx2, g, W, h1, hW⟩ := id hA
      have h3 := (hW.out la _ upd_same).1
      rw [ho] at h3
      have e1 := Option.some.inj h3
      injection e1 with _ e0 e2
      subst e0
      have ev : v = .ref W.w := by
        have e3 : (iF v).lookup ("world" : Str) = (iF (.ref W.w)).lookup ("world" : Str) := by rw [e2]
        rw [iF_world, iF_world] at e3
        exact Option.some.inj e3
      subst ev
      refine bF rfl ?_
      have ret : Ret G (upd H0 la (.ins G.CLine dx (iF (.ref W.w)))) W.w (Ag11.step (some s) x) (fun v H1 => [v].length ≤ sizeLine ∧ ∀ p, H1 p = none → Q (.ref p) (upd H1 p (.lst [v]))) := ret_of rfl h1 fun H' z k1 k2 => ret_one q k1 k2
      refine ⟨_, rfl, _, _, rfl, rfl, _, rfl, ?_⟩
      by_cases c8 : c < 8
      · refine dT c8 ?_
        refine ⟨_, rfl, la, _, dx, _, _, rfl, ho, G.cl_Line, G.n_Line_world, iF_world, _, rfl, _, rfl, ?_⟩
        exact ⟨_, g, W, s, t, c, a, x, p, rfl, hW, hG, ht, hp', hC, c0, c8, ret⟩
      · refine dF c8 ?_
        refine ⟨_, rfl, la, _, dx, _, _, rfl, ho, G.cl_Line, G.n_Line_world, iF_world, _, rfl, _, rfl, ?_⟩
        refine ⟨_, g, W, s, t, c, a, x, p, rfl, hW, hG, ht, hp', hC, c8, fun H' p' l1 l2 l3 => ?_⟩
        have e : (Ag11.step (some s) x).1 = some s := by
          cases hC with
          | letters => rfl
          | node => rfl
          | sees => rfl
          | blames => rfl
          | _ => exact absurd (by decide) c8
        refine q H' p' ?_ (hA.same.free l2) l3
        rw [e]
        exact hA.grow l1
theorem ok_Line_answer (G : Pg K mg) : FnOk P w K mg base CX0 8 G.f_Line_answer G.fd_Line_answer ["self", "call", "told"] (sp_Line_answer G) := by
  refine G.F_Line_answer.ok sc_Line_answer (fun vs H Q E h => len_Line_answer h) (fun cdv A outer s H vs Q E hr h => ⟨t_Line_answer G (sp_tell G) (sp_Line_begin G) (sp_change G), bd_Line_answer G (ok_tell G) (ok_Line_begin G) (ok_change G) hr, rd_Line_answer G h⟩)
end

end Wt
namespace Wt
open PySem PySem.Spec PyProof.Rows L2
open PySem.W (Codec)
section
variable {P : Program} {w : World} {K : PySem.W.Frag} {mg : Str → Option Value} {base : Heap}
variable {G : Pg K mg} {T : Tg → Prop} {g g' : Gh} {H H' H0 : Hp} {W : WL} {s : Ag11.State}
theorem cut_mid {l : List Int} {i n : Nat} (h : i + n ≤ l.length) : cutV (l.map V.int) (some (i : Int)) (some ((i + n : Nat) : Int)) = ((l.drop i).take n).map V.int := by
  unfold cutV
  rw [HT.sIx_nat, HT.sIx_nat, List.length_map, Nat.min_eq_left (show i ≤ l.length by omega), Nat.min_eq_left h, Nat.add_sub_cancel_left, List.map_take, List.map_drop]
theorem counts_at {c : Int} {a : List Int} {x : Ag11.Call} (h : CallIs (c :: a) x) : atI ([.int 3, .int 2, .int 1, .int 1, .int 1, .int 1, .int 1, .int 1, .int 0, .int 1, .int 1, .int 0] : List V) c = some (.int (a.length : Int)) := by
  cases h <;> rfl
def sp_answers (K : PySem.W.Frag) : Sp := fun vs H Q _ => ∃ (a : Addr) (ns : List Int), vs = [.ref a] ∧ SqL K H a (ns.map V.int) ∧ PyAg11.answers_asked ns = true ∧
  ∀ (H' : Hp) (p : Addr), H' p = some (.lst ((PyAg11.answers ns).map V.int)) → Q (.ref p) H'
theorem len_answers {vs : List V} {Q : VK} {E : XK} (h : sp_answers K vs H Q E) : vs.length = (["calls"] : List Str).length := by
  obtain ⟨a, ns, rfl, _⟩ := h
  rfl
theorem asked_is {ns : List Int} (h : PyAg11.answers_asked ns = true) : ∃ cs, PyFlat.calls PyAg11.shape ns.length ns = some cs ∧ cs.length ≤ 100 ∧ (∀ c ∈ cs, Ag11Neutral.asked1 c = true) ∧ PyAg11.answers ns = tell none cs ∧ (PyAg11.answers ns).length ≤ 10000000 := by
  unfold PyAg11.answers_asked at h
  cases e : PyFlat.calls PyAg11.shape ns.length ns with
  | none =>
    rw [e] at h
    cases h
  | some raw =>
    rw [e] at h
    have h : (!raw.isEmpty && PyFlat.atMost 100 raw && PyInside.calls PyAg11.bound raw && Ag11Neutral.asked (raw.map PyAg11.whole) && PyFlat.short 10000000 (PyAg11.answers ns)) = true := h
    rw [Bool.and_eq_true, Bool.and_eq_true, Bool.and_eq_true, Bool.and_eq_true] at h
    obtain ⟨⟨⟨⟨_, h1⟩, _⟩, h2⟩, h3⟩ := h
    have ew : raw.map PyAg11.whole = raw := by
      rw [show PyAg11.whole = id from funext whole_id, List.map_id]
    rw [ew] at h2
    unfold Ag11Neutral.asked at h2
    rw [Bool.and_eq_true, Bool.and_eq_true] at h2
    refine ⟨raw, rfl, of_decide_eq_true h1, fun c hc => List.all_eq_true.mp h2.2.2 c hc, ?_, of_decide_eq_true h3⟩
    unfold PyAg11.answers PyAg11.calls
    rw [e]
    show PyFlat.told (PyFlat.played Ag11Neutral.step Ag11Neutral.start (raw.map PyAg11.whole)) = _
    rw [ew]
    rfl
theorem rd_answers (G : Pg K mg) {vs : List V} {H : Hp} {Q : VK} {E : XK} (h : sp_answers K vs H Q E) : (t_answers G (sp_Line_init G) (sp_Line_answer G)) { nx := fun _ H' => Q .non H', rt := Q } (start ["calls", "line", "given", "at", "call", "behind", "answer"] vs) H := by
  obtain ⟨a, ns, rfl, hS, hask, q⟩ := h
  obtain ⟨cs0, hcs0, hl0, hok0, hans, hbig⟩ := asked_is hask
  intro la dx nla ndx nex
  refine ⟨la, dx, rfl, upd_same, rfl, ?_⟩
  rw [upd_upd]
  have hA0 : LineAt G H (upd (upd H dx (.own la)) la (.ins G.CLine dx (iF .non))) la none := by
    refine ⟨dx, nla, fun b o e => ?_, upd_same⟩
    rw [upd_ne (ne_of_none e nla), upd_ne (ne_of_none e ndx)]
    exact e
  refine ⟨Nat.zero_le _, fun gA hgA => ?_⟩
  have ngA : H gA = none := hA0.same.free hgA
  have hA1 := hA0.new (x := .lst []) hgA
  -- the loop: behind at numbers gs has been told, from o the calls cs are left
  refine ⟨fun m σ H' => ∃ (i : Nat) (o : Ag11.Abs) (t f : Nat) (cs : List (List (List Int))) (gs : List Int) (v4 v5 v6 : Option V), σ = [some (.ref a), some (.ref la), some (.ref gA), some (.int (i : Int)), v4, v5, v6] ∧ m = ns.length - i ∧ i ≤ ns.length ∧
      PyFlat.calls PyAg11.shape f (ns.drop i) = some cs ∧ (∀ c ∈ cs, Ag11Neutral.asked1 c = true) ∧ gs ++ tell o cs = PyAg11.answers ns ∧ t + cs.length ≤ 100 ∧ GoodO t o ∧ LineAt G (upd H gA (.lst (gs.map V.int))) H' la o,
    ⟨_, 0, none, 0, ns.length, cs0, [], _, _, _, rfl, rfl, Nat.zero_le _, hcs0, hok0, hans.symm, by omega, True.intro, hA1⟩, ?_⟩
  rintro m σ H' ⟨i, o, t, f, cs, gs, v4, v5, v6, rfl, rfl, hi, hcs, hok, hgs, ht, hG, hA⟩
  have hS' : SqL K H' a (ns.map V.int) := ((Same.up ngA).trans hA.same).seq hS
  refine ⟨_, rfl, _, rfl, a, _, rfl, .inl hS', _, _, rfl, rfl, _, rfl, ?_⟩
  by_cases c : i < ns.length
  · refine bT (decide_eq_true (by rw [List.length_map]; omega)) ?_
    obtain ⟨p, r, hr⟩ : ∃ p r, ns.drop i = p :: r := by
      cases e : ns.drop i with
      | nil =>
        have := List.drop_eq_nil_iff.mp e
        omega
      | cons p r => exact ⟨p, r, rfl⟩
    have hp : ns[i]? = some p := by
      have e : (ns.drop i)[0]? = some p := by
        rw [hr]
        rfl
      rw [List.getElem?_drop] at e
      exact e
    have hr2 : r = ns.drop (i + 1) := by
      have e := congrArg List.tail hr
      rw [List.tail_drop] at e
      exact e.symm
    cases f with
    | zero =>
      rw [hr] at hcs
      cases hcs
    | succ f =>
      rw [hr] at hcs
      obtain ⟨n, cs', hn, rfl, hcs'⟩ := parse_cons hcs
      obtain ⟨x, hx, hx2⟩ := callIs_of (hok _ List.mem_cons_self)
      have el : (r.take n).length = n := by rw [List.length_take]; omega
      have lr : r.length = ns.length - (i + 1) := by rw [hr2, List.length_drop]
      refine ⟨fun σ2 H2 => ∃ v4 v5 v6 gs', σ2 = [some (.ref a), some (.ref la), some (.ref gA), some (.int ((i + 1 + n : Nat) : Int)), v4, v5, v6] ∧ gs' ++ tell (Ag11.step o x).1 cs' = PyAg11.answers ns ∧ LineAt G (upd H gA (.lst (gs'.map V.int))) H2 la (Ag11.step o x).1, ?_, ?_⟩
      · rintro σ2 H2 ⟨v4, v5, v6, gs', rfl, k1, k2⟩
        refine ⟨_, ?_, i + 1 + n, (Ag11.step o x).1, t + 1, f, cs', gs', v4, v5, v6, rfl, rfl, by omega, ?_, fun c hc => hok c (List.mem_cons_of_mem _ hc), k1, ?_, GoodO.step hG x, k2⟩
        · omega
        · rw [hr2, List.drop_drop] at hcs'
          exact hcs'
        · rw [List.length_cons] at ht
          omega
      · refine ⟨_, rfl, _, rfl, a, _, _, _, rfl, rfl, hS', atI_nat (show (ns.map V.int)[i]? = some (.int p) by rw [List.getElem?_map, hp]; rfl), ?_⟩
        refine ⟨_, rfl, _, _, rfl, rfl, _, rfl, G.a_COUNTS, _, _, _, rfl, rfl, G.q_COUNTS H', counts_at hx, _, _, rfl, rfl, ?_⟩
        have e1 : (i : Int) + 1 + ((r.take n).length : Int) = ((i + 1 + n : Nat) : Int) := by
          rw [el]
          omega
        show tSeq _ _ _ [some (.ref a), some (.ref la), some (.ref gA), some (.int (i : Int)), some (.int p), some (.int ((i : Int) + 1 + ((r.take n).length : Int))), v6] H'
        rw [e1]
        obtain ⟨dxl, vl, hol⟩ := hA.obj
        refine ⟨_, rfl, la, dxl, _, rfl, hol, iF_no_answer, _, rfl, _, rfl, _, rfl, _, _, rfl, rfl, _, rfl, _, rfl, _, rfl, a, _, rfl, hS', fun pT hpT => ?_⟩
        have e2 : cutV (ns.map V.int) (some ((i : Int) + 1)) (some ((i + 1 + n : Nat) : Int)) = (r.take n).map V.int := by
          rw [show ((i : Int) + 1) = ((i + 1 : Nat) : Int) by omega, cut_mid (by omega), ← hr2]
        rw [e2]
        have npT : upd H gA (.lst (gs.map V.int)) pT = none := hA.same.free hpT
        refine ⟨upd (upd H gA (.lst (gs.map V.int))) pT (.lst ((r.take n).map V.int)), la, pT, o, t, p, r.take n, x, rfl, hA.new hpT, hG, by omega, upd_same, hx, fun H2 qA hA2 nq hq => ?_⟩
        have ngp : gA ≠ pT := fun e => by
          rw [← e, upd_same] at npT
          cases npT
        have nqg : qA ≠ gA := fun e => by
          rw [e, upd_ne ngp, upd_same] at nq
          cases nq
        have hA3 : LineAt G (upd H gA (.lst (gs.map V.int))) H2 la (Ag11.step o x).1 := hA2.less (Same.up npT)
        have hg3 : H2 gA = some (.lst (gs.map V.int)) := hA3.same gA _ upd_same
        -- sizes
        have tot : gs ++ ((((Ag11.step o x).2.length : Nat) : Int) :: ((Ag11.step o x).2 ++ tell (Ag11.step o x).1 cs')) = PyAg11.answers ns := by
          rw [← tell_cons hx2]
          exact hgs
        have sz := congrArg List.length tot
        rw [List.length_append, List.length_cons, List.length_append] at sz
        refine ⟨_, rfl, .inl ⟨rfl, _, SqL.of hg3⟩, _, rfl, qA, _, rfl, .inl (SqL.of hq), gA, _, _, rfl, rfl, hg3, ?_, ?_⟩
        · rw [List.length_map]
          exact Nat.lt_of_le_of_lt (show gs.length ≤ 10000000 by omega) (by decide)
        have hq2 : upd H2 gA (.lst (gs.map V.int ++ [.int (((Ag11.step o x).2.map V.int).length : Int)])) qA = some (.lst ((Ag11.step o x).2.map V.int)) := by
          rw [upd_ne nqg]
          exact hq
        refine ⟨_, rfl, .inl ⟨rfl, _, SqL.of upd_same⟩, _, rfl, gA, qA, _, _, rfl, rfl, upd_same, hq2, ?_, ?_⟩
        · rw [List.length_append, List.length_map, List.length_map, List.length_singleton]
          exact Nat.le_trans (show gs.length + 1 + (Ag11.step o x).2.length ≤ 10000000 by omega) (by decide)
        rw [upd_upd]
        refine ⟨_, rfl, ?_⟩
        refine ⟨_, _, _, gs ++ ((((Ag11.step o x).2.length : Nat) : Int) :: (Ag11.step o x).2), rfl, ?_, ?_⟩
        · rw [← tot, List.append_assoc, List.cons_append]
        · have k := hA3.puts (x := .lst ((gs ++ ((((Ag11.step o x).2.length : Nat) : Int) :: (Ag11.step o x).2)).map V.int)) upd_same (fun z => z)
          rw [upd_upd] at k
          have e3 : gs.map V.int ++ [.int (((Ag11.step o x).2.map V.int).length : Int)] ++ (Ag11.step o x).2.map V.int = (gs ++ ((((Ag11.step o x).2.length : Nat) : Int) :: (Ag11.step o x).2)).map V.int := by
            rw [List.map_append, List.map_cons, List.length_map, List.append_assoc]
            rfl
          rw [e3]
          exact k
  · refine bF (decide_eq_false (by rw [List.length_map]; omega)) ?_
    have ei : i = ns.length := by omega
    have en : ns.drop i = [] := List.drop_eq_nil_iff.mpr (by omega)
    rw [en] at hcs
    have ec : cs = [] := by
      cases f with
      | zero => exact (Option.some.inj hcs).symm
      | succ f => exact (Option.some.inj hcs).symm
    subst ec
    have eg : gs = PyAg11.answers ns := by
      have e : tell o [] = [] := rfl
      rw [e, List.append_nil] at hgs
      exact hgs
    refine ⟨_, rfl, ?_⟩
    refine q H' gA ?_
    rw [← eg]
    exact hA.same gA _ upd_same
theorem ok_answers (G : Pg K mg) : FnOk P w K mg base CX0 9 G.f_answers G.fd_answers ["calls"] (sp_answers K) := by
  refine G.F_answers.ok sc_answers (fun vs H Q E h => len_answers h) (fun cdv A outer s H vs Q E hr h => ⟨t_answers G (sp_Line_init G) (sp_Line_answer G), bd_answers G (ok_Line_init G) (ok_Line_answer G) hr, rd_answers G h⟩)
end

end Wt
namespace Wt
open PySem PySem.Spec PyProof.Rows L2
theorem all_mk {P : Program} {w : World} {K : PySem.W.Frag} {h : Heap} {mg : Str → Option Value} {fa : Addr} {spm : Sp} (X : K.In h) (G : h.Ns mainGlobals mg) (hfa : mg "answers" = some (.ref fa))
    (okm : ∀ (g : Pg K mg) (base : Heap), FnOk P w K mg base CX0 9 g.f_answers g.fd_answers ["calls"] spm)
    {t_BEGIN : Tok}
    {t_PROBE : Tok}
    {t_TICK : Tok}
    {t_TAKE : Tok}
    {t_KEEP : Tok}
    {t_LOSE : Tok}
    {t_STOP : Tok}
    {t_LETTERS : Tok}
    {t_NODE : Tok}
    {t_SEES : Tok}
    {t_REFUSED : Tok}
    {t_IS_SO_ALREADY : Tok}
    {t_HAS_STOPPED : Tok}
    {t_NO_WORLD : Tok}
    {t_ASK : Tok}
    {t_HERE : Tok}
    {t_HELP : Tok}
    {t_THERE : Tok}
    {t_SUSPECTED : Tok}
    {t_GONE : Tok}
    {t_NO_USE : Tok}
    {t_ANSWERED : Tok}
    {t_ASKING_OVER : Tok}
    {t_TOLD_ON : Tok}
    {t_ANOTHER_ASKED : Tok}
    {t_BUT_HEARD : Tok}
    {t_ROOM : Tok}
    {t_NOT_TOLD : Tok}
    {a_COUNTS : Addr} {od_COUNTS : Option Addr} {nn_COUNTS : Nat} {sl_COUNTS : Array (Option Value)} {u0_COUNTS u1_COUNTS u2_COUNTS u3_COUNTS u4_COUNTS u5_COUNTS u6_COUNTS u7_COUNTS u8_COUNTS u9_COUNTS u10_COUNTS u11_COUNTS : Tok}
    {CLetter : Addr}
    {CAsking : Addr}
    {CNode : Addr}
    {CWorld : Addr}
    {CLine : Addr}
    {f_counts_for_more : Addr} {od_counts_for_more an_counts_for_more : Option Addr} {sl_counts_for_more : Array (Option Value)} {oc_counts_for_more kV_counts_for_more dc_counts_for_more pm_counts_for_more cd_counts_for_more ct_counts_for_more : Value}
    {f_one_behind_another : Addr} {od_one_behind_another an_one_behind_another : Option Addr} {sl_one_behind_another : Array (Option Value)} {oc_one_behind_another kV_one_behind_another dc_one_behind_another pm_one_behind_another cd_one_behind_another ct_one_behind_another : Value}
    {f_Letter_init : Addr} {od_Letter_init an_Letter_init : Option Addr} {sl_Letter_init : Array (Option Value)} {oc_Letter_init kV_Letter_init dc_Letter_init pm_Letter_init cd_Letter_init ct_Letter_init : Value}
    {f_Letter_numbers : Addr} {od_Letter_numbers an_Letter_numbers : Option Addr} {sl_Letter_numbers : Array (Option Value)} {oc_Letter_numbers kV_Letter_numbers dc_Letter_numbers pm_Letter_numbers cd_Letter_numbers ct_Letter_numbers : Value}
    {f_Asking_init : Addr} {od_Asking_init an_Asking_init : Option Addr} {sl_Asking_init : Array (Option Value)} {oc_Asking_init kV_Asking_init dc_Asking_init pm_Asking_init cd_Asking_init ct_Asking_init : Value}
    {f_Asking_numbers : Addr} {od_Asking_numbers an_Asking_numbers : Option Addr} {sl_Asking_numbers : Array (Option Value)} {oc_Asking_numbers kV_Asking_numbers dc_Asking_numbers pm_Asking_numbers cd_Asking_numbers ct_Asking_numbers : Value}
    {f_Node_init : Addr} {od_Node_init an_Node_init : Option Addr} {sl_Node_init : Array (Option Value)} {oc_Node_init kV_Node_init dc_Node_init pm_Node_init cd_Node_init ct_Node_init : Value}
    {f_Node_forget : Addr} {od_Node_forget an_Node_forget : Option Addr} {sl_Node_forget : Array (Option Value)} {oc_Node_forget kV_Node_forget dc_Node_forget pm_Node_forget cd_Node_forget ct_Node_forget : Value}
    {f_Node_begin_anew : Addr} {od_Node_begin_anew an_Node_begin_anew : Option Addr} {sl_Node_begin_anew : Array (Option Value)} {oc_Node_begin_anew kV_Node_begin_anew dc_Node_begin_anew pm_Node_begin_anew cd_Node_begin_anew ct_Node_begin_anew : Value}
    {f_Node_has_passed : Addr} {od_Node_has_passed an_Node_has_passed : Option Addr} {sl_Node_has_passed : Array (Option Value)} {oc_Node_has_passed kV_Node_has_passed dc_Node_has_passed pm_Node_has_passed cd_Node_has_passed ct_Node_has_passed : Value}
    {f_Node_learn : Addr} {od_Node_learn an_Node_learn : Option Addr} {sl_Node_learn : Array (Option Value)} {oc_Node_learn kV_Node_learn dc_Node_learn pm_Node_learn cd_Node_learn ct_Node_learn : Value}
    {f_Node_hear : Addr} {od_Node_hear an_Node_hear : Option Addr} {sl_Node_hear : Array (Option Value)} {oc_Node_hear kV_Node_hear dc_Node_hear pm_Node_hear cd_Node_hear ct_Node_hear : Value}
    {f_Node_hear_of_itself : Addr} {od_Node_hear_of_itself an_Node_hear_of_itself : Option Addr} {sl_Node_hear_of_itself : Array (Option Value)} {oc_Node_hear_of_itself kV_Node_hear_of_itself dc_Node_hear_of_itself pm_Node_hear_of_itself cd_Node_hear_of_itself ct_Node_hear_of_itself : Value}
    {f_Node_give_up : Addr} {od_Node_give_up an_Node_give_up : Option Addr} {sl_Node_give_up : Array (Option Value)} {oc_Node_give_up kV_Node_give_up dc_Node_give_up pm_Node_give_up cd_Node_give_up ct_Node_give_up : Value}
    {f_Node_numbers : Addr} {od_Node_numbers an_Node_numbers : Option Addr} {sl_Node_numbers : Array (Option Value)} {oc_Node_numbers kV_Node_numbers dc_Node_numbers pm_Node_numbers cd_Node_numbers ct_Node_numbers : Value}
    {f_Node_seen : Addr} {od_Node_seen an_Node_seen : Option Addr} {sl_Node_seen : Array (Option Value)} {oc_Node_seen kV_Node_seen dc_Node_seen pm_Node_seen cd_Node_seen ct_Node_seen : Value}
    {f_World_init : Addr} {od_World_init an_World_init : Option Addr} {sl_World_init : Array (Option Value)} {oc_World_init kV_World_init dc_World_init pm_World_init cd_World_init ct_World_init : Value}
    {f_World_has_node : Addr} {od_World_has_node an_World_has_node : Option Addr} {sl_World_has_node : Array (Option Value)} {oc_World_has_node kV_World_has_node dc_World_has_node pm_World_has_node cd_World_has_node ct_World_has_node : Value}
    {f_World_has_letter : Addr} {od_World_has_letter an_World_has_letter : Option Addr} {sl_World_has_letter : Array (Option Value)} {oc_World_has_letter kV_World_has_letter dc_World_has_letter pm_World_has_letter cd_World_has_letter ct_World_has_letter : Value}
    {f_World_send : Addr} {od_World_send an_World_send : Option Addr} {sl_World_send : Array (Option Value)} {oc_World_send kV_World_send dc_World_send pm_World_send cd_World_send ct_World_send : Value}
    {f_World_probe : Addr} {od_World_probe an_World_probe : Option Addr} {sl_World_probe : Array (Option Value)} {oc_World_probe kV_World_probe dc_World_probe pm_World_probe cd_World_probe ct_World_probe : Value}
    {f_World_tick : Addr} {od_World_tick an_World_tick : Option Addr} {sl_World_tick : Array (Option Value)} {oc_World_tick kV_World_tick dc_World_tick pm_World_tick cd_World_tick ct_World_tick : Value}
    {f_World_wait_on : Addr} {od_World_wait_on an_World_wait_on : Option Addr} {sl_World_wait_on : Array (Option Value)} {oc_World_wait_on kV_World_wait_on dc_World_wait_on pm_World_wait_on cd_World_wait_on ct_World_wait_on : Value}
    {f_World_call_for_help : Addr} {od_World_call_for_help an_World_call_for_help : Option Addr} {sl_World_call_for_help : Array (Option Value)} {oc_World_call_for_help kV_World_call_for_help dc_World_call_for_help pm_World_call_for_help cd_World_call_for_help ct_World_call_for_help : Value}
    {f_World_blame : Addr} {od_World_blame an_World_blame : Option Addr} {sl_World_blame : Array (Option Value)} {oc_World_blame kV_World_blame dc_World_blame pm_World_blame cd_World_blame ct_World_blame : Value}
    {f_World_take : Addr} {od_World_take an_World_take : Option Addr} {sl_World_take : Array (Option Value)} {oc_World_take kV_World_take dc_World_take pm_World_take cd_World_take ct_World_take : Value}
    {f_World_keep : Addr} {od_World_keep an_World_keep : Option Addr} {sl_World_keep : Array (Option Value)} {oc_World_keep kV_World_keep dc_World_keep pm_World_keep cd_World_keep ct_World_keep : Value}
    {f_World_lose : Addr} {od_World_lose an_World_lose : Option Addr} {sl_World_lose : Array (Option Value)} {oc_World_lose kV_World_lose dc_World_lose pm_World_lose cd_World_lose ct_World_lose : Value}
    {f_World_hand_over : Addr} {od_World_hand_over an_World_hand_over : Option Addr} {sl_World_hand_over : Array (Option Value)} {oc_World_hand_over kV_World_hand_over dc_World_hand_over pm_World_hand_over cd_World_hand_over ct_World_hand_over : Value}
    {f_World_get_here : Addr} {od_World_get_here an_World_get_here : Option Addr} {sl_World_get_here : Array (Option Value)} {oc_World_get_here kV_World_get_here dc_World_get_here pm_World_get_here cd_World_get_here ct_World_get_here : Value}
    {f_World_ask_for_another : Addr} {od_World_ask_for_another an_World_ask_for_another : Option Addr} {sl_World_ask_for_another : Array (Option Value)} {oc_World_ask_for_another kV_World_ask_for_another dc_World_ask_for_another pm_World_ask_for_another cd_World_ask_for_another ct_World_ask_for_another : Value}
    {f_World_stop_node : Addr} {od_World_stop_node an_World_stop_node : Option Addr} {sl_World_stop_node : Array (Option Value)} {oc_World_stop_node kV_World_stop_node dc_World_stop_node pm_World_stop_node cd_World_stop_node ct_World_stop_node : Value}
    {f_World_start_node : Addr} {od_World_start_node an_World_start_node : Option Addr} {sl_World_start_node : Array (Option Value)} {oc_World_start_node kV_World_start_node dc_World_start_node pm_World_start_node cd_World_start_node ct_World_start_node : Value}
    {f_World_tell_letters : Addr} {od_World_tell_letters an_World_tell_letters : Option Addr} {sl_World_tell_letters : Array (Option Value)} {oc_World_tell_letters kV_World_tell_letters dc_World_tell_letters pm_World_tell_letters cd_World_tell_letters ct_World_tell_letters : Value}
    {f_World_tell_node : Addr} {od_World_tell_node an_World_tell_node : Option Addr} {sl_World_tell_node : Array (Option Value)} {oc_World_tell_node kV_World_tell_node dc_World_tell_node pm_World_tell_node cd_World_tell_node ct_World_tell_node : Value}
    {f_World_tell_seen : Addr} {od_World_tell_seen an_World_tell_seen : Option Addr} {sl_World_tell_seen : Array (Option Value)} {oc_World_tell_seen kV_World_tell_seen dc_World_tell_seen pm_World_tell_seen cd_World_tell_seen ct_World_tell_seen : Value}
    {f_World_tell_blames : Addr} {od_World_tell_blames an_World_tell_blames : Option Addr} {sl_World_tell_blames : Array (Option Value)} {oc_World_tell_blames kV_World_tell_blames dc_World_tell_blames pm_World_tell_blames cd_World_tell_blames ct_World_tell_blames : Value}
    {f_change : Addr} {od_change an_change : Option Addr} {sl_change : Array (Option Value)} {oc_change kV_change dc_change pm_change cd_change ct_change : Value}
    {f_tell : Addr} {od_tell an_tell : Option Addr} {sl_tell : Array (Option Value)} {oc_tell kV_tell dc_tell pm_tell cd_tell ct_tell : Value}
    {f_Line_init : Addr} {od_Line_init an_Line_init : Option Addr} {sl_Line_init : Array (Option Value)} {oc_Line_init kV_Line_init dc_Line_init pm_Line_init cd_Line_init ct_Line_init : Value}
    {f_Line_begin : Addr} {od_Line_begin an_Line_begin : Option Addr} {sl_Line_begin : Array (Option Value)} {oc_Line_begin kV_Line_begin dc_Line_begin pm_Line_begin cd_Line_begin ct_Line_begin : Value}
    {f_Line_answer : Addr} {od_Line_answer an_Line_answer : Option Addr} {sl_Line_answer : Array (Option Value)} {oc_Line_answer kV_Line_answer dc_Line_answer pm_Line_answer cd_Line_answer ct_Line_answer : Value}
    {f_answers : Addr} {od_answers an_answers : Option Addr} {sl_answers : Array (Option Value)} {oc_answers kV_answers dc_answers pm_answers cd_answers ct_answers : Value}
    (g_BEGIN : PySem.W.nsIn K mainGlobals "BEGIN" = some (some (.int 0 t_BEGIN)))
    (g_PROBE : PySem.W.nsIn K mainGlobals "PROBE" = some (some (.int 1 t_PROBE)))
    (g_TICK : PySem.W.nsIn K mainGlobals "TICK" = some (some (.int 2 t_TICK)))
    (g_TAKE : PySem.W.nsIn K mainGlobals "TAKE" = some (some (.int 3 t_TAKE)))
    (g_KEEP : PySem.W.nsIn K mainGlobals "KEEP" = some (some (.int 4 t_KEEP)))
    (g_LOSE : PySem.W.nsIn K mainGlobals "LOSE" = some (some (.int 5 t_LOSE)))
    (g_STOP : PySem.W.nsIn K mainGlobals "STOP" = some (some (.int 6 t_STOP)))
    (g_LETTERS : PySem.W.nsIn K mainGlobals "LETTERS" = some (some (.int 8 t_LETTERS)))
    (g_NODE : PySem.W.nsIn K mainGlobals "NODE" = some (some (.int 9 t_NODE)))
    (g_SEES : PySem.W.nsIn K mainGlobals "SEES" = some (some (.int 10 t_SEES)))
    (g_REFUSED : PySem.W.nsIn K mainGlobals "REFUSED" = some (some (.int (-1) t_REFUSED)))
    (g_IS_SO_ALREADY : PySem.W.nsIn K mainGlobals "IS_SO_ALREADY" = some (some (.int (-2) t_IS_SO_ALREADY)))
    (g_HAS_STOPPED : PySem.W.nsIn K mainGlobals "HAS_STOPPED" = some (some (.int (-3) t_HAS_STOPPED)))
    (g_NO_WORLD : PySem.W.nsIn K mainGlobals "NO_WORLD" = some (some (.int (-9) t_NO_WORLD)))
    (g_ASK : PySem.W.nsIn K mainGlobals "ASK" = some (some (.int 0 t_ASK)))
    (g_HERE : PySem.W.nsIn K mainGlobals "HERE" = some (some (.int 1 t_HERE)))
    (g_HELP : PySem.W.nsIn K mainGlobals "HELP" = some (some (.int 2 t_HELP)))
    (g_THERE : PySem.W.nsIn K mainGlobals "THERE" = some (some (.int 0 t_THERE)))
    (g_SUSPECTED : PySem.W.nsIn K mainGlobals "SUSPECTED" = some (some (.int 1 t_SUSPECTED)))
    (g_GONE : PySem.W.nsIn K mainGlobals "GONE" = some (some (.int 2 t_GONE)))
    (g_NO_USE : PySem.W.nsIn K mainGlobals "NO_USE" = some (some (.int 0 t_NO_USE)))
    (g_ANSWERED : PySem.W.nsIn K mainGlobals "ANSWERED" = some (some (.int 1 t_ANSWERED)))
    (g_ASKING_OVER : PySem.W.nsIn K mainGlobals "ASKING_OVER" = some (some (.int 2 t_ASKING_OVER)))
    (g_TOLD_ON : PySem.W.nsIn K mainGlobals "TOLD_ON" = some (some (.int 3 t_TOLD_ON)))
    (g_ANOTHER_ASKED : PySem.W.nsIn K mainGlobals "ANOTHER_ASKED" = some (some (.int 4 t_ANOTHER_ASKED)))
    (g_BUT_HEARD : PySem.W.nsIn K mainGlobals "BUT_HEARD" = some (some (.int 5 t_BUT_HEARD)))
    (g_ROOM : PySem.W.nsIn K mainGlobals "ROOM" = some (some (.int 100 t_ROOM)))
    (g_NOT_TOLD : PySem.W.nsIn K mainGlobals "NOT_TOLD" = some (some (.int 0 t_NOT_TOLD)))
    (g_COUNTS : PySem.W.nsIn K mainGlobals "COUNTS" = some (some (.ref a_COUNTS)))
    (q_COUNTS : K.lookup a_COUNTS = some ⟨.type "tuple", od_COUNTS, .seq #[.int 3 u0_COUNTS, .int 2 u1_COUNTS, .int 1 u2_COUNTS, .int 1 u3_COUNTS, .int 1 u4_COUNTS, .int 1 u5_COUNTS, .int 1 u6_COUNTS, .int 1 u7_COUNTS, .int 0 u8_COUNTS, .int 1 u9_COUNTS, .int 1 u10_COUNTS, .int 0 u11_COUNTS] nn_COUNTS, sl_COUNTS⟩)
    (z_len : PySem.W.nsIn K mainGlobals "len" = some none)
    (z_list : PySem.W.nsIn K mainGlobals "list" = some none)
    (z_range : PySem.W.nsIn K mainGlobals "range" = some none)
    (g_Letter : PySem.W.nsIn K mainGlobals "Letter" = some (some (.ref CLetter)))
    (pg_Letter : PySem.W.plainGet K CLetter Str.empty = true)
    (hd_Letter : PySem.W.hasDictIn K CLetter = true)
    (po_Letter : PySem.W.plainOver K CLetter = true)
    (sa_Letter : PySem.W.findIn K (.ref CLetter) "__setattr__" = some (some (.builtin "object.__setattr__")))
    (mk_Letter : PySem.W.makesIn K CLetter = true)
    (kc_Letter : PySem.W.keepIn K (.ref CLetter) = true)
    (n_Letter_kind : PySem.W.findIn K (.ref CLetter) "kind" = some none)
    (n_Letter_to : PySem.W.findIn K (.ref CLetter) "to" = some none)
    (n_Letter_sender : PySem.W.findIn K (.ref CLetter) "sender" = some none)
    (n_Letter_number : PySem.W.findIn K (.ref CLetter) "number" = some none)
    (n_Letter_whom : PySem.W.findIn K (.ref CLetter) "whom" = some none)
    (n_Letter_facts : PySem.W.findIn K (.ref CLetter) "facts" = some none)
    (g_Asking : PySem.W.nsIn K mainGlobals "Asking" = some (some (.ref CAsking)))
    (pg_Asking : PySem.W.plainGet K CAsking Str.empty = true)
    (hd_Asking : PySem.W.hasDictIn K CAsking = true)
    (po_Asking : PySem.W.plainOver K CAsking = true)
    (sa_Asking : PySem.W.findIn K (.ref CAsking) "__setattr__" = some (some (.builtin "object.__setattr__")))
    (mk_Asking : PySem.W.makesIn K CAsking = true)
    (kc_Asking : PySem.W.keepIn K (.ref CAsking) = true)
    (n_Asking_whom : PySem.W.findIn K (.ref CAsking) "whom" = some none)
    (n_Asking_number : PySem.W.findIn K (.ref CAsking) "number" = some none)
    (n_Asking_since : PySem.W.findIn K (.ref CAsking) "since" = some none)
    (n_Asking_helped : PySem.W.findIn K (.ref CAsking) "helped" = some none)
    (g_Node : PySem.W.nsIn K mainGlobals "Node" = some (some (.ref CNode)))
    (pg_Node : PySem.W.plainGet K CNode Str.empty = true)
    (hd_Node : PySem.W.hasDictIn K CNode = true)
    (po_Node : PySem.W.plainOver K CNode = true)
    (sa_Node : PySem.W.findIn K (.ref CNode) "__setattr__" = some (some (.builtin "object.__setattr__")))
    (mk_Node : PySem.W.makesIn K CNode = true)
    (kc_Node : PySem.W.keepIn K (.ref CNode) = true)
    (n_Node_me : PySem.W.findIn K (.ref CNode) "me" = some none)
    (n_Node_runs : PySem.W.findIn K (.ref CNode) "runs" = some none)
    (n_Node_own : PySem.W.findIn K (.ref CNode) "own" = some none)
    (n_Node_asked : PySem.W.findIn K (.ref CNode) "asked" = some none)
    (n_Node_clock : PySem.W.findIn K (.ref CNode) "clock" = some none)
    (n_Node_facts : PySem.W.findIn K (.ref CNode) "facts" = some none)
    (n_Node_since : PySem.W.findIn K (.ref CNode) "since" = some none)
    (n_Node_asking : PySem.W.findIn K (.ref CNode) "asking" = some none)
    (n_Node_for_others : PySem.W.findIn K (.ref CNode) "for_others" = some none)
    (g_World : PySem.W.nsIn K mainGlobals "World" = some (some (.ref CWorld)))
    (pg_World : PySem.W.plainGet K CWorld Str.empty = true)
    (hd_World : PySem.W.hasDictIn K CWorld = true)
    (po_World : PySem.W.plainOver K CWorld = true)
    (sa_World : PySem.W.findIn K (.ref CWorld) "__setattr__" = some (some (.builtin "object.__setattr__")))
    (mk_World : PySem.W.makesIn K CWorld = true)
    (kc_World : PySem.W.keepIn K (.ref CWorld) = true)
    (n_World_wait : PySem.W.findIn K (.ref CWorld) "wait" = some none)
    (n_World_patience : PySem.W.findIn K (.ref CWorld) "patience" = some none)
    (n_World_nodes : PySem.W.findIn K (.ref CWorld) "nodes" = some none)
    (n_World_row : PySem.W.findIn K (.ref CWorld) "row" = some none)
    (n_World_blamed : PySem.W.findIn K (.ref CWorld) "blamed" = some none)
    (g_Line : PySem.W.nsIn K mainGlobals "Line" = some (some (.ref CLine)))
    (pg_Line : PySem.W.plainGet K CLine Str.empty = true)
    (hd_Line : PySem.W.hasDictIn K CLine = true)
    (po_Line : PySem.W.plainOver K CLine = true)
    (sa_Line : PySem.W.findIn K (.ref CLine) "__setattr__" = some (some (.builtin "object.__setattr__")))
    (mk_Line : PySem.W.makesIn K CLine = true)
    (kc_Line : PySem.W.keepIn K (.ref CLine) = true)
    (n_Line_world : PySem.W.findIn K (.ref CLine) "world" = some none)
    (a_counts_for_more : PySem.W.nsIn K mainGlobals "counts_for_more" = some (some (.ref f_counts_for_more)))
    (l_counts_for_more : K.lookup f_counts_for_more = some ⟨oc_counts_for_more, od_counts_for_more, .func (PySem.W.fnOf "counts_for_more" "counts_for_more" (defArgs s_counts_for_more) (defBody s_counts_for_more) (defScope s_counts_for_more) .none kV_counts_for_more dc_counts_for_more pm_counts_for_more an_counts_for_more cd_counts_for_more ct_counts_for_more), sl_counts_for_more⟩)
    (c_counts_for_more : PySem.W.codeIn K cd_counts_for_more "counts_for_more" = true)
    (k_counts_for_more : PySem.W.keepIn K (.ref f_counts_for_more) = true)
    (a_one_behind_another : PySem.W.nsIn K mainGlobals "one_behind_another" = some (some (.ref f_one_behind_another)))
    (l_one_behind_another : K.lookup f_one_behind_another = some ⟨oc_one_behind_another, od_one_behind_another, .func (PySem.W.fnOf "one_behind_another" "one_behind_another" (defArgs s_one_behind_another) (defBody s_one_behind_another) (defScope s_one_behind_another) .none kV_one_behind_another dc_one_behind_another pm_one_behind_another an_one_behind_another cd_one_behind_another ct_one_behind_another), sl_one_behind_another⟩)
    (c_one_behind_another : PySem.W.codeIn K cd_one_behind_another "one_behind_another" = true)
    (k_one_behind_another : PySem.W.keepIn K (.ref f_one_behind_another) = true)
    (a_Letter_init : PySem.W.findIn K (.ref CLetter) "__init__" = some (some (.ref f_Letter_init)))
    (i_Letter_init : PySem.W.isFn K (.ref f_Letter_init) = true)
    (l_Letter_init : K.lookup f_Letter_init = some ⟨oc_Letter_init, od_Letter_init, .func (PySem.W.fnOf "__init__" "Letter.__init__" (defArgs s_Letter_init) (defBody s_Letter_init) (defScope s_Letter_init) .none kV_Letter_init dc_Letter_init pm_Letter_init an_Letter_init cd_Letter_init ct_Letter_init), sl_Letter_init⟩)
    (c_Letter_init : PySem.W.codeIn K cd_Letter_init "Letter.__init__" = true)
    (k_Letter_init : PySem.W.keepIn K (.ref f_Letter_init) = true)
    (a_Letter_numbers : PySem.W.findIn K (.ref CLetter) "numbers" = some (some (.ref f_Letter_numbers)))
    (i_Letter_numbers : PySem.W.isFn K (.ref f_Letter_numbers) = true)
    (l_Letter_numbers : K.lookup f_Letter_numbers = some ⟨oc_Letter_numbers, od_Letter_numbers, .func (PySem.W.fnOf "numbers" "Letter.numbers" (defArgs s_Letter_numbers) (defBody s_Letter_numbers) (defScope s_Letter_numbers) .none kV_Letter_numbers dc_Letter_numbers pm_Letter_numbers an_Letter_numbers cd_Letter_numbers ct_Letter_numbers), sl_Letter_numbers⟩)
    (c_Letter_numbers : PySem.W.codeIn K cd_Letter_numbers "Letter.numbers" = true)
    (k_Letter_numbers : PySem.W.keepIn K (.ref f_Letter_numbers) = true)
    (a_Asking_init : PySem.W.findIn K (.ref CAsking) "__init__" = some (some (.ref f_Asking_init)))
    (i_Asking_init : PySem.W.isFn K (.ref f_Asking_init) = true)
    (l_Asking_init : K.lookup f_Asking_init = some ⟨oc_Asking_init, od_Asking_init, .func (PySem.W.fnOf "__init__" "Asking.__init__" (defArgs s_Asking_init) (defBody s_Asking_init) (defScope s_Asking_init) .none kV_Asking_init dc_Asking_init pm_Asking_init an_Asking_init cd_Asking_init ct_Asking_init), sl_Asking_init⟩)
    (c_Asking_init : PySem.W.codeIn K cd_Asking_init "Asking.__init__" = true)
    (k_Asking_init : PySem.W.keepIn K (.ref f_Asking_init) = true)
    (a_Asking_numbers : PySem.W.findIn K (.ref CAsking) "numbers" = some (some (.ref f_Asking_numbers)))
    (i_Asking_numbers : PySem.W.isFn K (.ref f_Asking_numbers) = true)
    (l_Asking_numbers : K.lookup f_Asking_numbers = some ⟨oc_Asking_numbers, od_Asking_numbers, .func (PySem.W.fnOf "numbers" "Asking.numbers" (defArgs s_Asking_numbers) (defBody s_Asking_numbers) (defScope s_Asking_numbers) .none kV_Asking_numbers dc_Asking_numbers pm_Asking_numbers an_Asking_numbers cd_Asking_numbers ct_Asking_numbers), sl_Asking_numbers⟩)
    (c_Asking_numbers : PySem.W.codeIn K cd_Asking_numbers "Asking.numbers" = true)
    (k_Asking_numbers : PySem.W.keepIn K (.ref f_Asking_numbers) = true)
    (a_Node_init : PySem.W.findIn K (.ref CNode) "__init__" = some (some (.ref f_Node_init)))
    (i_Node_init : PySem.W.isFn K (.ref f_Node_init) = true)
    (l_Node_init : K.lookup f_Node_init = some ⟨oc_Node_init, od_Node_init, .func (PySem.W.fnOf "__init__" "Node.__init__" (defArgs s_Node_init) (defBody s_Node_init) (defScope s_Node_init) .none kV_Node_init dc_Node_init pm_Node_init an_Node_init cd_Node_init ct_Node_init), sl_Node_init⟩)
    (c_Node_init : PySem.W.codeIn K cd_Node_init "Node.__init__" = true)
    (k_Node_init : PySem.W.keepIn K (.ref f_Node_init) = true)
    (a_Node_forget : PySem.W.findIn K (.ref CNode) "forget" = some (some (.ref f_Node_forget)))
    (i_Node_forget : PySem.W.isFn K (.ref f_Node_forget) = true)
    (l_Node_forget : K.lookup f_Node_forget = some ⟨oc_Node_forget, od_Node_forget, .func (PySem.W.fnOf "forget" "Node.forget" (defArgs s_Node_forget) (defBody s_Node_forget) (defScope s_Node_forget) .none kV_Node_forget dc_Node_forget pm_Node_forget an_Node_forget cd_Node_forget ct_Node_forget), sl_Node_forget⟩)
    (c_Node_forget : PySem.W.codeIn K cd_Node_forget "Node.forget" = true)
    (k_Node_forget : PySem.W.keepIn K (.ref f_Node_forget) = true)
    (a_Node_begin_anew : PySem.W.findIn K (.ref CNode) "begin_anew" = some (some (.ref f_Node_begin_anew)))
    (i_Node_begin_anew : PySem.W.isFn K (.ref f_Node_begin_anew) = true)
    (l_Node_begin_anew : K.lookup f_Node_begin_anew = some ⟨oc_Node_begin_anew, od_Node_begin_anew, .func (PySem.W.fnOf "begin_anew" "Node.begin_anew" (defArgs s_Node_begin_anew) (defBody s_Node_begin_anew) (defScope s_Node_begin_anew) .none kV_Node_begin_anew dc_Node_begin_anew pm_Node_begin_anew an_Node_begin_anew cd_Node_begin_anew ct_Node_begin_anew), sl_Node_begin_anew⟩)
    (c_Node_begin_anew : PySem.W.codeIn K cd_Node_begin_anew "Node.begin_anew" = true)
    (k_Node_begin_anew : PySem.W.keepIn K (.ref f_Node_begin_anew) = true)
    (a_Node_has_passed : PySem.W.findIn K (.ref CNode) "has_passed" = some (some (.ref f_Node_has_passed)))
    (i_Node_has_passed : PySem.W.isFn K (.ref f_Node_has_passed) = true)
    (l_Node_has_passed : K.lookup f_Node_has_passed = some ⟨oc_Node_has_passed, od_Node_has_passed, .func (PySem.W.fnOf "has_passed" "Node.has_passed" (defArgs s_Node_has_passed) (defBody s_Node_has_passed) (defScope s_Node_has_passed) .none kV_Node_has_passed dc_Node_has_passed pm_Node_has_passed an_Node_has_passed cd_Node_has_passed ct_Node_has_passed), sl_Node_has_passed⟩)
    (c_Node_has_passed : PySem.W.codeIn K cd_Node_has_passed "Node.has_passed" = true)
    (k_Node_has_passed : PySem.W.keepIn K (.ref f_Node_has_passed) = true)
    (a_Node_learn : PySem.W.findIn K (.ref CNode) "learn" = some (some (.ref f_Node_learn)))
    (i_Node_learn : PySem.W.isFn K (.ref f_Node_learn) = true)
    (l_Node_learn : K.lookup f_Node_learn = some ⟨oc_Node_learn, od_Node_learn, .func (PySem.W.fnOf "learn" "Node.learn" (defArgs s_Node_learn) (defBody s_Node_learn) (defScope s_Node_learn) .none kV_Node_learn dc_Node_learn pm_Node_learn an_Node_learn cd_Node_learn ct_Node_learn), sl_Node_learn⟩)
    (c_Node_learn : PySem.W.codeIn K cd_Node_learn "Node.learn" = true)
    (k_Node_learn : PySem.W.keepIn K (.ref f_Node_learn) = true)
    (a_Node_hear : PySem.W.findIn K (.ref CNode) "hear" = some (some (.ref f_Node_hear)))
    (i_Node_hear : PySem.W.isFn K (.ref f_Node_hear) = true)
    (l_Node_hear : K.lookup f_Node_hear = some ⟨oc_Node_hear, od_Node_hear, .func (PySem.W.fnOf "hear" "Node.hear" (defArgs s_Node_hear) (defBody s_Node_hear) (defScope s_Node_hear) .none kV_Node_hear dc_Node_hear pm_Node_hear an_Node_hear cd_Node_hear ct_Node_hear), sl_Node_hear⟩)
    (c_Node_hear : PySem.W.codeIn K cd_Node_hear "Node.hear" = true)
    (k_Node_hear : PySem.W.keepIn K (.ref f_Node_hear) = true)
    (a_Node_hear_of_itself : PySem.W.findIn K (.ref CNode) "hear_of_itself" = some (some (.ref f_Node_hear_of_itself)))
    (i_Node_hear_of_itself : PySem.W.isFn K (.ref f_Node_hear_of_itself) = true)
    (l_Node_hear_of_itself : K.lookup f_Node_hear_of_itself = some ⟨oc_Node_hear_of_itself, od_Node_hear_of_itself, .func (PySem.W.fnOf "hear_of_itself" "Node.hear_of_itself" (defArgs s_Node_hear_of_itself) (defBody s_Node_hear_of_itself) (defScope s_Node_hear_of_itself) .none kV_Node_hear_of_itself dc_Node_hear_of_itself pm_Node_hear_of_itself an_Node_hear_of_itself cd_Node_hear_of_itself ct_Node_hear_of_itself), sl_Node_hear_of_itself⟩)
    (c_Node_hear_of_itself : PySem.W.codeIn K cd_Node_hear_of_itself "Node.hear_of_itself" = true)
    (k_Node_hear_of_itself : PySem.W.keepIn K (.ref f_Node_hear_of_itself) = true)
    (a_Node_give_up : PySem.W.findIn K (.ref CNode) "give_up" = some (some (.ref f_Node_give_up)))
    (i_Node_give_up : PySem.W.isFn K (.ref f_Node_give_up) = true)
    (l_Node_give_up : K.lookup f_Node_give_up = some ⟨oc_Node_give_up, od_Node_give_up, .func (PySem.W.fnOf "give_up" "Node.give_up" (defArgs s_Node_give_up) (defBody s_Node_give_up) (defScope s_Node_give_up) .none kV_Node_give_up dc_Node_give_up pm_Node_give_up an_Node_give_up cd_Node_give_up ct_Node_give_up), sl_Node_give_up⟩)
    (c_Node_give_up : PySem.W.codeIn K cd_Node_give_up "Node.give_up" = true)
    (k_Node_give_up : PySem.W.keepIn K (.ref f_Node_give_up) = true)
    (a_Node_numbers : PySem.W.findIn K (.ref CNode) "numbers" = some (some (.ref f_Node_numbers)))
    (i_Node_numbers : PySem.W.isFn K (.ref f_Node_numbers) = true)
    (l_Node_numbers : K.lookup f_Node_numbers = some ⟨oc_Node_numbers, od_Node_numbers, .func (PySem.W.fnOf "numbers" "Node.numbers" (defArgs s_Node_numbers) (defBody s_Node_numbers) (defScope s_Node_numbers) .none kV_Node_numbers dc_Node_numbers pm_Node_numbers an_Node_numbers cd_Node_numbers ct_Node_numbers), sl_Node_numbers⟩)
    (c_Node_numbers : PySem.W.codeIn K cd_Node_numbers "Node.numbers" = true)
    (k_Node_numbers : PySem.W.keepIn K (.ref f_Node_numbers) = true)
    (a_Node_seen : PySem.W.findIn K (.ref CNode) "seen" = some (some (.ref f_Node_seen)))
    (i_Node_seen : PySem.W.isFn K (.ref f_Node_seen) = true)
    (l_Node_seen : K.lookup f_Node_seen = some ⟨oc_Node_seen, od_Node_seen, .func (PySem.W.fnOf "seen" "Node.seen" (defArgs s_Node_seen) (defBody s_Node_seen) (defScope s_Node_seen) .none kV_Node_seen dc_Node_seen pm_Node_seen an_Node_seen cd_Node_seen ct_Node_seen), sl_Node_seen⟩)
    (c_Node_seen : PySem.W.codeIn K cd_Node_seen "Node.seen" = true)
    (k_Node_seen : PySem.W.keepIn K (.ref f_Node_seen) = true)
    (a_World_init : PySem.W.findIn K (.ref CWorld) "__init__" = some (some (.ref f_World_init)))
    (i_World_init : PySem.W.isFn K (.ref f_World_init) = true)
    (l_World_init : K.lookup f_World_init = some ⟨oc_World_init, od_World_init, .func (PySem.W.fnOf "__init__" "World.__init__" (defArgs s_World_init) (defBody s_World_init) (defScope s_World_init) .none kV_World_init dc_World_init pm_World_init an_World_init cd_World_init ct_World_init), sl_World_init⟩)
    (c_World_init : PySem.W.codeIn K cd_World_init "World.__init__" = true)
    (k_World_init : PySem.W.keepIn K (.ref f_World_init) = true)
    (a_World_has_node : PySem.W.findIn K (.ref CWorld) "has_node" = some (some (.ref f_World_has_node)))
    (i_World_has_node : PySem.W.isFn K (.ref f_World_has_node) = true)
    (l_World_has_node : K.lookup f_World_has_node = some ⟨oc_World_has_node, od_World_has_node, .func (PySem.W.fnOf "has_node" "World.has_node" (defArgs s_World_has_node) (defBody s_World_has_node) (defScope s_World_has_node) .none kV_World_has_node dc_World_has_node pm_World_has_node an_World_has_node cd_World_has_node ct_World_has_node), sl_World_has_node⟩)
    (c_World_has_node : PySem.W.codeIn K cd_World_has_node "World.has_node" = true)
    (k_World_has_node : PySem.W.keepIn K (.ref f_World_has_node) = true)
    (a_World_has_letter : PySem.W.findIn K (.ref CWorld) "has_letter" = some (some (.ref f_World_has_letter)))
    (i_World_has_letter : PySem.W.isFn K (.ref f_World_has_letter) = true)
    (l_World_has_letter : K.lookup f_World_has_letter = some ⟨oc_World_has_letter, od_World_has_letter, .func (PySem.W.fnOf "has_letter" "World.has_letter" (defArgs s_World_has_letter) (defBody s_World_has_letter) (defScope s_World_has_letter) .none kV_World_has_letter dc_World_has_letter pm_World_has_letter an_World_has_letter cd_World_has_letter ct_World_has_letter), sl_World_has_letter⟩)
    (c_World_has_letter : PySem.W.codeIn K cd_World_has_letter "World.has_letter" = true)
    (k_World_has_letter : PySem.W.keepIn K (.ref f_World_has_letter) = true)
    (a_World_send : PySem.W.findIn K (.ref CWorld) "send" = some (some (.ref f_World_send)))
    (i_World_send : PySem.W.isFn K (.ref f_World_send) = true)
    (l_World_send : K.lookup f_World_send = some ⟨oc_World_send, od_World_send, .func (PySem.W.fnOf "send" "World.send" (defArgs s_World_send) (defBody s_World_send) (defScope s_World_send) .none kV_World_send dc_World_send pm_World_send an_World_send cd_World_send ct_World_send), sl_World_send⟩)
    (c_World_send : PySem.W.codeIn K cd_World_send "World.send" = true)
    (k_World_send : PySem.W.keepIn K (.ref f_World_send) = true)
    (a_World_probe : PySem.W.findIn K (.ref CWorld) "probe" = some (some (.ref f_World_probe)))
    (i_World_probe : PySem.W.isFn K (.ref f_World_probe) = true)
    (l_World_probe : K.lookup f_World_probe = some ⟨oc_World_probe, od_World_probe, .func (PySem.W.fnOf "probe" "World.probe" (defArgs s_World_probe) (defBody s_World_probe) (defScope s_World_probe) .none kV_World_probe dc_World_probe pm_World_probe an_World_probe cd_World_probe ct_World_probe), sl_World_probe⟩)
    (c_World_probe : PySem.W.codeIn K cd_World_probe "World.probe" = true)
    (k_World_probe : PySem.W.keepIn K (.ref f_World_probe) = true)
    (a_World_tick : PySem.W.findIn K (.ref CWorld) "tick" = some (some (.ref f_World_tick)))
    (i_World_tick : PySem.W.isFn K (.ref f_World_tick) = true)
    (l_World_tick : K.lookup f_World_tick = some ⟨oc_World_tick, od_World_tick, .func (PySem.W.fnOf "tick" "World.tick" (defArgs s_World_tick) (defBody s_World_tick) (defScope s_World_tick) .none kV_World_tick dc_World_tick pm_World_tick an_World_tick cd_World_tick ct_World_tick), sl_World_tick⟩)
    (c_World_tick : PySem.W.codeIn K cd_World_tick "World.tick" = true)
    (k_World_tick : PySem.W.keepIn K (.ref f_World_tick) = true)
    (a_World_wait_on : PySem.W.findIn K (.ref CWorld) "wait_on" = some (some (.ref f_World_wait_on)))
    (i_World_wait_on : PySem.W.isFn K (.ref f_World_wait_on) = true)
    (l_World_wait_on : K.lookup f_World_wait_on = some ⟨oc_World_wait_on, od_World_wait_on, .func (PySem.W.fnOf "wait_on" "World.wait_on" (defArgs s_World_wait_on) (defBody s_World_wait_on) (defScope s_World_wait_on) .none kV_World_wait_on dc_World_wait_on pm_World_wait_on an_World_wait_on cd_World_wait_on ct_World_wait_on), sl_World_wait_on⟩)
    (c_World_wait_on : PySem.W.codeIn K cd_World_wait_on "World.wait_on" = true)
    (k_World_wait_on : PySem.W.keepIn K (.ref f_World_wait_on) = true)
    (a_World_call_for_help : PySem.W.findIn K (.ref CWorld) "call_for_help" = some (some (.ref f_World_call_for_help)))
    (i_World_call_for_help : PySem.W.isFn K (.ref f_World_call_for_help) = true)
    (l_World_call_for_help : K.lookup f_World_call_for_help = some ⟨oc_World_call_for_help, od_World_call_for_help, .func (PySem.W.fnOf "call_for_help" "World.call_for_help" (defArgs s_World_call_for_help) (defBody s_World_call_for_help) (defScope s_World_call_for_help) .none kV_World_call_for_help dc_World_call_for_help pm_World_call_for_help an_World_call_for_help cd_World_call_for_help ct_World_call_for_help), sl_World_call_for_help⟩)
    (c_World_call_for_help : PySem.W.codeIn K cd_World_call_for_help "World.call_for_help" = true)
    (k_World_call_for_help : PySem.W.keepIn K (.ref f_World_call_for_help) = true)
    (a_World_blame : PySem.W.findIn K (.ref CWorld) "blame" = some (some (.ref f_World_blame)))
    (i_World_blame : PySem.W.isFn K (.ref f_World_blame) = true)
    (l_World_blame : K.lookup f_World_blame = some ⟨oc_World_blame, od_World_blame, .func (PySem.W.fnOf "blame" "World.blame" (defArgs s_World_blame) (defBody s_World_blame) (defScope s_World_blame) .none kV_World_blame dc_World_blame pm_World_blame an_World_blame cd_World_blame ct_World_blame), sl_World_blame⟩)
    (c_World_blame : PySem.W.codeIn K cd_World_blame "World.blame" = true)
    (k_World_blame : PySem.W.keepIn K (.ref f_World_blame) = true)
    (a_World_take : PySem.W.findIn K (.ref CWorld) "take" = some (some (.ref f_World_take)))
    (i_World_take : PySem.W.isFn K (.ref f_World_take) = true)
    (l_World_take : K.lookup f_World_take = some ⟨oc_World_take, od_World_take, .func (PySem.W.fnOf "take" "World.take" (defArgs s_World_take) (defBody s_World_take) (defScope s_World_take) .none kV_World_take dc_World_take pm_World_take an_World_take cd_World_take ct_World_take), sl_World_take⟩)
    (c_World_take : PySem.W.codeIn K cd_World_take "World.take" = true)
    (k_World_take : PySem.W.keepIn K (.ref f_World_take) = true)
    (a_World_keep : PySem.W.findIn K (.ref CWorld) "keep" = some (some (.ref f_World_keep)))
    (i_World_keep : PySem.W.isFn K (.ref f_World_keep) = true)
    (l_World_keep : K.lookup f_World_keep = some ⟨oc_World_keep, od_World_keep, .func (PySem.W.fnOf "keep" "World.keep" (defArgs s_World_keep) (defBody s_World_keep) (defScope s_World_keep) .none kV_World_keep dc_World_keep pm_World_keep an_World_keep cd_World_keep ct_World_keep), sl_World_keep⟩)
    (c_World_keep : PySem.W.codeIn K cd_World_keep "World.keep" = true)
    (k_World_keep : PySem.W.keepIn K (.ref f_World_keep) = true)
    (a_World_lose : PySem.W.findIn K (.ref CWorld) "lose" = some (some (.ref f_World_lose)))
    (i_World_lose : PySem.W.isFn K (.ref f_World_lose) = true)
    (l_World_lose : K.lookup f_World_lose = some ⟨oc_World_lose, od_World_lose, .func (PySem.W.fnOf "lose" "World.lose" (defArgs s_World_lose) (defBody s_World_lose) (defScope s_World_lose) .none kV_World_lose dc_World_lose pm_World_lose an_World_lose cd_World_lose ct_World_lose), sl_World_lose⟩)
    (c_World_lose : PySem.W.codeIn K cd_World_lose "World.lose" = true)
    (k_World_lose : PySem.W.keepIn K (.ref f_World_lose) = true)
    (a_World_hand_over : PySem.W.findIn K (.ref CWorld) "hand_over" = some (some (.ref f_World_hand_over)))
    (i_World_hand_over : PySem.W.isFn K (.ref f_World_hand_over) = true)
    (l_World_hand_over : K.lookup f_World_hand_over = some ⟨oc_World_hand_over, od_World_hand_over, .func (PySem.W.fnOf "hand_over" "World.hand_over" (defArgs s_World_hand_over) (defBody s_World_hand_over) (defScope s_World_hand_over) .none kV_World_hand_over dc_World_hand_over pm_World_hand_over an_World_hand_over cd_World_hand_over ct_World_hand_over), sl_World_hand_over⟩)
    (c_World_hand_over : PySem.W.codeIn K cd_World_hand_over "World.hand_over" = true)
    (k_World_hand_over : PySem.W.keepIn K (.ref f_World_hand_over) = true)
    (a_World_get_here : PySem.W.findIn K (.ref CWorld) "get_here" = some (some (.ref f_World_get_here)))
    (i_World_get_here : PySem.W.isFn K (.ref f_World_get_here) = true)
    (l_World_get_here : K.lookup f_World_get_here = some ⟨oc_World_get_here, od_World_get_here, .func (PySem.W.fnOf "get_here" "World.get_here" (defArgs s_World_get_here) (defBody s_World_get_here) (defScope s_World_get_here) .none kV_World_get_here dc_World_get_here pm_World_get_here an_World_get_here cd_World_get_here ct_World_get_here), sl_World_get_here⟩)
    (c_World_get_here : PySem.W.codeIn K cd_World_get_here "World.get_here" = true)
    (k_World_get_here : PySem.W.keepIn K (.ref f_World_get_here) = true)
    (a_World_ask_for_another : PySem.W.findIn K (.ref CWorld) "ask_for_another" = some (some (.ref f_World_ask_for_another)))
    (i_World_ask_for_another : PySem.W.isFn K (.ref f_World_ask_for_another) = true)
    (l_World_ask_for_another : K.lookup f_World_ask_for_another = some ⟨oc_World_ask_for_another, od_World_ask_for_another, .func (PySem.W.fnOf "ask_for_another" "World.ask_for_another" (defArgs s_World_ask_for_another) (defBody s_World_ask_for_another) (defScope s_World_ask_for_another) .none kV_World_ask_for_another dc_World_ask_for_another pm_World_ask_for_another an_World_ask_for_another cd_World_ask_for_another ct_World_ask_for_another), sl_World_ask_for_another⟩)
    (c_World_ask_for_another : PySem.W.codeIn K cd_World_ask_for_another "World.ask_for_another" = true)
    (k_World_ask_for_another : PySem.W.keepIn K (.ref f_World_ask_for_another) = true)
    (a_World_stop_node : PySem.W.findIn K (.ref CWorld) "stop_node" = some (some (.ref f_World_stop_node)))
    (i_World_stop_node : PySem.W.isFn K (.ref f_World_stop_node) = true)
    (l_World_stop_node : K.lookup f_World_stop_node = some ⟨oc_World_stop_node, od_World_stop_node, .func (PySem.W.fnOf "stop_node" "World.stop_node" (defArgs s_World_stop_node) (defBody s_World_stop_node) (defScope s_World_stop_node) .none kV_World_stop_node dc_World_stop_node pm_World_stop_node an_World_stop_node cd_World_stop_node ct_World_stop_node), sl_World_stop_node⟩)
    (c_World_stop_node : PySem.W.codeIn K cd_World_stop_node "World.stop_node" = true)
    (k_World_stop_node : PySem.W.keepIn K (.ref f_World_stop_node) = true)
    (a_World_start_node : PySem.W.findIn K (.ref CWorld) "start_node" = some (some (.ref f_World_start_node)))
    (i_World_start_node : PySem.W.isFn K (.ref f_World_start_node) = true)
    (l_World_start_node : K.lookup f_World_start_node = some ⟨oc_World_start_node, od_World_start_node, .func (PySem.W.fnOf "start_node" "World.start_node" (defArgs s_World_start_node) (defBody s_World_start_node) (defScope s_World_start_node) .none kV_World_start_node dc_World_start_node pm_World_start_node an_World_start_node cd_World_start_node ct_World_start_node), sl_World_start_node⟩)
    (c_World_start_node : PySem.W.codeIn K cd_World_start_node "World.start_node" = true)
    (k_World_start_node : PySem.W.keepIn K (.ref f_World_start_node) = true)
    (a_World_tell_letters : PySem.W.findIn K (.ref CWorld) "tell_letters" = some (some (.ref f_World_tell_letters)))
    (i_World_tell_letters : PySem.W.isFn K (.ref f_World_tell_letters) = true)
    (l_World_tell_letters : K.lookup f_World_tell_letters = some ⟨oc_World_tell_letters, od_World_tell_letters, .func (PySem.W.fnOf "tell_letters" "World.tell_letters" (defArgs s_World_tell_letters) (defBody s_World_tell_letters) (defScope s_World_tell_letters) .none kV_World_tell_letters dc_World_tell_letters pm_World_tell_letters an_World_tell_letters cd_World_tell_letters ct_World_tell_letters), sl_World_tell_letters⟩)
    (c_World_tell_letters : PySem.W.codeIn K cd_World_tell_letters "World.tell_letters" = true)
    (k_World_tell_letters : PySem.W.keepIn K (.ref f_World_tell_letters) = true)
    (a_World_tell_node : PySem.W.findIn K (.ref CWorld) "tell_node" = some (some (.ref f_World_tell_node)))
    (i_World_tell_node : PySem.W.isFn K (.ref f_World_tell_node) = true)
    (l_World_tell_node : K.lookup f_World_tell_node = some ⟨oc_World_tell_node, od_World_tell_node, .func (PySem.W.fnOf "tell_node" "World.tell_node" (defArgs s_World_tell_node) (defBody s_World_tell_node) (defScope s_World_tell_node) .none kV_World_tell_node dc_World_tell_node pm_World_tell_node an_World_tell_node cd_World_tell_node ct_World_tell_node), sl_World_tell_node⟩)
    (c_World_tell_node : PySem.W.codeIn K cd_World_tell_node "World.tell_node" = true)
    (k_World_tell_node : PySem.W.keepIn K (.ref f_World_tell_node) = true)
    (a_World_tell_seen : PySem.W.findIn K (.ref CWorld) "tell_seen" = some (some (.ref f_World_tell_seen)))
    (i_World_tell_seen : PySem.W.isFn K (.ref f_World_tell_seen) = true)
    (l_World_tell_seen : K.lookup f_World_tell_seen = some ⟨oc_World_tell_seen, od_World_tell_seen, .func (PySem.W.fnOf "tell_seen" "World.tell_seen" (defArgs s_World_tell_seen) (defBody s_World_tell_seen) (defScope s_World_tell_seen) .none kV_World_tell_seen dc_World_tell_seen pm_World_tell_seen an_World_tell_seen cd_World_tell_seen ct_World_tell_seen), sl_World_tell_seen⟩)
    (c_World_tell_seen : PySem.W.codeIn K cd_World_tell_seen "World.tell_seen" = true)
    (k_World_tell_seen : PySem.W.keepIn K (.ref f_World_tell_seen) = true)
    (a_World_tell_blames : PySem.W.findIn K (.ref CWorld) "tell_blames" = some (some (.ref f_World_tell_blames)))
    (i_World_tell_blames : PySem.W.isFn K (.ref f_World_tell_blames) = true)
    (l_World_tell_blames : K.lookup f_World_tell_blames = some ⟨oc_World_tell_blames, od_World_tell_blames, .func (PySem.W.fnOf "tell_blames" "World.tell_blames" (defArgs s_World_tell_blames) (defBody s_World_tell_blames) (defScope s_World_tell_blames) .none kV_World_tell_blames dc_World_tell_blames pm_World_tell_blames an_World_tell_blames cd_World_tell_blames ct_World_tell_blames), sl_World_tell_blames⟩)
    (c_World_tell_blames : PySem.W.codeIn K cd_World_tell_blames "World.tell_blames" = true)
    (k_World_tell_blames : PySem.W.keepIn K (.ref f_World_tell_blames) = true)
    (a_change : PySem.W.nsIn K mainGlobals "change" = some (some (.ref f_change)))
    (l_change : K.lookup f_change = some ⟨oc_change, od_change, .func (PySem.W.fnOf "change" "change" (defArgs s_change) (defBody s_change) (defScope s_change) .none kV_change dc_change pm_change an_change cd_change ct_change), sl_change⟩)
    (c_change : PySem.W.codeIn K cd_change "change" = true)
    (k_change : PySem.W.keepIn K (.ref f_change) = true)
    (a_tell : PySem.W.nsIn K mainGlobals "tell" = some (some (.ref f_tell)))
    (l_tell : K.lookup f_tell = some ⟨oc_tell, od_tell, .func (PySem.W.fnOf "tell" "tell" (defArgs s_tell) (defBody s_tell) (defScope s_tell) .none kV_tell dc_tell pm_tell an_tell cd_tell ct_tell), sl_tell⟩)
    (c_tell : PySem.W.codeIn K cd_tell "tell" = true)
    (k_tell : PySem.W.keepIn K (.ref f_tell) = true)
    (a_Line_init : PySem.W.findIn K (.ref CLine) "__init__" = some (some (.ref f_Line_init)))
    (i_Line_init : PySem.W.isFn K (.ref f_Line_init) = true)
    (l_Line_init : K.lookup f_Line_init = some ⟨oc_Line_init, od_Line_init, .func (PySem.W.fnOf "__init__" "Line.__init__" (defArgs s_Line_init) (defBody s_Line_init) (defScope s_Line_init) .none kV_Line_init dc_Line_init pm_Line_init an_Line_init cd_Line_init ct_Line_init), sl_Line_init⟩)
    (c_Line_init : PySem.W.codeIn K cd_Line_init "Line.__init__" = true)
    (k_Line_init : PySem.W.keepIn K (.ref f_Line_init) = true)
    (a_Line_begin : PySem.W.findIn K (.ref CLine) "begin" = some (some (.ref f_Line_begin)))
    (i_Line_begin : PySem.W.isFn K (.ref f_Line_begin) = true)
    (l_Line_begin : K.lookup f_Line_begin = some ⟨oc_Line_begin, od_Line_begin, .func (PySem.W.fnOf "begin" "Line.begin" (defArgs s_Line_begin) (defBody s_Line_begin) (defScope s_Line_begin) .none kV_Line_begin dc_Line_begin pm_Line_begin an_Line_begin cd_Line_begin ct_Line_begin), sl_Line_begin⟩)
    (c_Line_begin : PySem.W.codeIn K cd_Line_begin "Line.begin" = true)
    (k_Line_begin : PySem.W.keepIn K (.ref f_Line_begin) = true)
    (a_Line_answer : PySem.W.findIn K (.ref CLine) "answer" = some (some (.ref f_Line_answer)))
    (i_Line_answer : PySem.W.isFn K (.ref f_Line_answer) = true)
    (l_Line_answer : K.lookup f_Line_answer = some ⟨oc_Line_answer, od_Line_answer, .func (PySem.W.fnOf "answer" "Line.answer" (defArgs s_Line_answer) (defBody s_Line_answer) (defScope s_Line_answer) .none kV_Line_answer dc_Line_answer pm_Line_answer an_Line_answer cd_Line_answer ct_Line_answer), sl_Line_answer⟩)
    (c_Line_answer : PySem.W.codeIn K cd_Line_answer "Line.answer" = true)
    (k_Line_answer : PySem.W.keepIn K (.ref f_Line_answer) = true)
    (a_answers : PySem.W.nsIn K mainGlobals "answers" = some (some (.ref f_answers)))
    (l_answers : K.lookup f_answers = some ⟨oc_answers, od_answers, .func (PySem.W.fnOf "answers" "answers" (defArgs s_answers) (defBody s_answers) (defScope s_answers) .none kV_answers dc_answers pm_answers an_answers cd_answers ct_answers), sl_answers⟩)
    (c_answers : PySem.W.codeIn K cd_answers "answers" = true)
    (k_answers : PySem.W.keepIn K (.ref f_answers) = true) :
    ∃ fd : FuncData, (∀ (s : Shared) (us : List Value), us.length = (["calls"] : List Str).length → BindsTo s fd ⟨us, []⟩ ((["calls"] : List Str).zip us)) ∧ ∀ base : Heap, K.In base → base.Ns mainGlobals mg → FnOk P w K mg base CX0 9 fa fd ["calls"] spm := by
  have e := hfa.symm.trans (PySem.W.mg_of X G a_answers)
  cases e
  refine ⟨PySem.W.fnOf "answers" "answers" (defArgs s_answers) (defBody s_answers) (defScope s_answers) .none kV_answers dc_answers pm_answers an_answers cd_answers ct_answers, fun s us hu => match us, hu with | [_], _ => .of_eq rfl, fun base _ _ => ?_⟩
  exact okm {
    CLetter := CLetter,
    CAsking := CAsking,
    CNode := CNode,
    CWorld := CWorld,
    CLine := CLine,
    a_COUNTS := a_COUNTS,
    f_counts_for_more := f_counts_for_more,
    fd_counts_for_more := PySem.W.fnOf "counts_for_more" "counts_for_more" (defArgs s_counts_for_more) (defBody s_counts_for_more) (defScope s_counts_for_more) .none kV_counts_for_more dc_counts_for_more pm_counts_for_more an_counts_for_more cd_counts_for_more ct_counts_for_more,
    f_one_behind_another := f_one_behind_another,
    fd_one_behind_another := PySem.W.fnOf "one_behind_another" "one_behind_another" (defArgs s_one_behind_another) (defBody s_one_behind_another) (defScope s_one_behind_another) .none kV_one_behind_another dc_one_behind_another pm_one_behind_another an_one_behind_another cd_one_behind_another ct_one_behind_another,
    f_Letter_init := f_Letter_init,
    fd_Letter_init := PySem.W.fnOf "__init__" "Letter.__init__" (defArgs s_Letter_init) (defBody s_Letter_init) (defScope s_Letter_init) .none kV_Letter_init dc_Letter_init pm_Letter_init an_Letter_init cd_Letter_init ct_Letter_init,
    f_Letter_numbers := f_Letter_numbers,
    fd_Letter_numbers := PySem.W.fnOf "numbers" "Letter.numbers" (defArgs s_Letter_numbers) (defBody s_Letter_numbers) (defScope s_Letter_numbers) .none kV_Letter_numbers dc_Letter_numbers pm_Letter_numbers an_Letter_numbers cd_Letter_numbers ct_Letter_numbers,
    f_Asking_init := f_Asking_init,
    fd_Asking_init := PySem.W.fnOf "__init__" "Asking.__init__" (defArgs s_Asking_init) (defBody s_Asking_init) (defScope s_Asking_init) .none kV_Asking_init dc_Asking_init pm_Asking_init an_Asking_init cd_Asking_init ct_Asking_init,
    f_Asking_numbers := f_Asking_numbers,
    fd_Asking_numbers := PySem.W.fnOf "numbers" "Asking.numbers" (defArgs s_Asking_numbers) (defBody s_Asking_numbers) (defScope s_Asking_numbers) .none kV_Asking_numbers dc_Asking_numbers pm_Asking_numbers an_Asking_numbers cd_Asking_numbers ct_Asking_numbers,
    f_Node_init := f_Node_init,
    fd_Node_init := PySem.W.fnOf "__init__" "Node.__init__" (defArgs s_Node_init) (defBody s_Node_init) (defScope s_Node_init) .none kV_Node_init dc_Node_init pm_Node_init an_Node_init cd_Node_init ct_Node_init,
    f_Node_forget := f_Node_forget,
    fd_Node_forget := PySem.W.fnOf "forget" "Node.forget" (defArgs s_Node_forget) (defBody s_Node_forget) (defScope s_Node_forget) .none kV_Node_forget dc_Node_forget pm_Node_forget an_Node_forget cd_Node_forget ct_Node_forget,
    f_Node_begin_anew := f_Node_begin_anew,
    fd_Node_begin_anew := PySem.W.fnOf "begin_anew" "Node.begin_anew" (defArgs s_Node_begin_anew) (defBody s_Node_begin_anew) (defScope s_Node_begin_anew) .none kV_Node_begin_anew dc_Node_begin_anew pm_Node_begin_anew an_Node_begin_anew cd_Node_begin_anew ct_Node_begin_anew,
    f_Node_has_passed := f_Node_has_passed,
    fd_Node_has_passed := PySem.W.fnOf "has_passed" "Node.has_passed" (defArgs s_Node_has_passed) (defBody s_Node_has_passed) (defScope s_Node_has_passed) .none kV_Node_has_passed dc_Node_has_passed pm_Node_has_passed an_Node_has_passed cd_Node_has_passed ct_Node_has_passed,
    f_Node_learn := f_Node_learn,
    fd_Node_learn := PySem.W.fnOf "learn" "Node.learn" (defArgs s_Node_learn) (defBody s_Node_learn) (defScope s_Node_learn) .none kV_Node_learn dc_Node_learn pm_Node_learn an_Node_learn cd_Node_learn ct_Node_learn,
    f_Node_hear := f_Node_hear,
    fd_Node_hear := PySem.W.fnOf "hear" "Node.hear" (defArgs s_Node_hear) (defBody s_Node_hear) (defScope s_Node_hear) .none kV_Node_hear dc_Node_hear pm_Node_hear an_Node_hear cd_Node_hear ct_Node_hear,
    f_Node_hear_of_itself := f_Node_hear_of_itself,
    fd_Node_hear_of_itself := PySem.W.fnOf "hear_of_itself" "Node.hear_of_itself" (defArgs s_Node_hear_of_itself) (defBody s_Node_hear_of_itself) (defScope s_Node_hear_of_itself) .none kV_Node_hear_of_itself dc_Node_hear_of_itself pm_Node_hear_of_itself an_Node_hear_of_itself cd_Node_hear_of_itself ct_Node_hear_of_itself,
    f_Node_give_up := f_Node_give_up,
    fd_Node_give_up := PySem.W.fnOf "give_up" "Node.give_up" (defArgs s_Node_give_up) (defBody s_Node_give_up) (defScope s_Node_give_up) .none kV_Node_give_up dc_Node_give_up pm_Node_give_up an_Node_give_up cd_Node_give_up ct_Node_give_up,
    f_Node_numbers := f_Node_numbers,
    fd_Node_numbers := PySem.W.fnOf "numbers" "Node.numbers" (defArgs s_Node_numbers) (defBody s_Node_numbers) (defScope s_Node_numbers) .none kV_Node_numbers dc_Node_numbers pm_Node_numbers an_Node_numbers cd_Node_numbers ct_Node_numbers,
    f_Node_seen := f_Node_seen,
    fd_Node_seen := PySem.W.fnOf "seen" "Node.seen" (defArgs s_Node_seen) (defBody s_Node_seen) (defScope s_Node_seen) .none kV_Node_seen dc_Node_seen pm_Node_seen an_Node_seen cd_Node_seen ct_Node_seen,
    f_World_init := f_World_init,
    fd_World_init := PySem.W.fnOf "__init__" "World.__init__" (defArgs s_World_init) (defBody s_World_init) (defScope s_World_init) .none kV_World_init dc_World_init pm_World_init an_World_init cd_World_init ct_World_init,
    f_World_has_node := f_World_has_node,
    fd_World_has_node := PySem.W.fnOf "has_node" "World.has_node" (defArgs s_World_has_node) (defBody s_World_has_node) (defScope s_World_has_node) .none kV_World_has_node dc_World_has_node pm_World_has_node an_World_has_node cd_World_has_node ct_World_has_node,
    f_World_has_letter := f_World_has_letter,
    fd_World_has_letter := PySem.W.fnOf "has_letter" "World.has_letter" (defArgs s_World_has_letter) (defBody s_World_has_letter) (defScope s_World_has_letter) .none kV_World_has_letter dc_World_has_letter pm_World_has_letter an_World_has_letter cd_World_has_letter ct_World_has_letter,
    f_World_send := f_World_send,
    fd_World_send := PySem.W.fnOf "send" "World.send" (defArgs s_World_send) (defBody s_World_send) (defScope s_World_send) .none kV_World_send dc_World_send pm_World_send an_World_send cd_World_send ct_World_send,
    f_World_probe := f_World_probe,
    fd_World_probe := PySem.W.fnOf "probe" "World.probe" (defArgs s_World_probe) (defBody s_World_probe) (defScope s_World_probe) .none kV_World_probe dc_World_probe pm_World_probe an_World_probe cd_World_probe ct_World_probe,
    f_World_tick := f_World_tick,
    fd_World_tick := PySem.W.fnOf "tick" "World.tick" (defArgs s_World_tick) (defBody s_World_tick) (defScope s_World_tick) .none kV_World_tick dc_World_tick pm_World_tick an_World_tick cd_World_tick ct_World_tick,
    f_World_wait_on := f_World_wait_on,
    fd_World_wait_on := PySem.W.fnOf "wait_on" "World.wait_on" (defArgs s_World_wait_on) (defBody s_World_wait_on) (defScope s_World_wait_on) .none kV_World_wait_on dc_World_wait_on pm_World_wait_on an_World_wait_on cd_World_wait_on ct_World_wait_on,
    f_World_call_for_help := f_World_call_for_help,
    fd_World_call_for_help := PySem.W.fnOf "call_for_help" "World.call_for_help" (defArgs s_World_call_for_help) (defBody s_World_call_for_help) (defScope s_World_call_for_help) .none kV_World_call_for_help dc_World_call_for_help pm_World_call_for_help an_World_call_for_help cd_World_call_for_help ct_World_call_for_help,
    f_World_blame := f_World_blame,
    fd_World_blame := PySem.W.fnOf "blame" "World.blame" (defArgs s_World_blame) (defBody s_World_blame) (defScope s_World_blame) .none kV_World_blame dc_World_blame pm_World_blame an_World_blame cd_World_blame ct_World_blame,
    f_World_take := f_World_take,
    fd_World_take := PySem.W.fnOf "take" "World.take" (defArgs s_World_take) (defBody s_World_take) (defScope s_World_take) .none kV_World_take dc_World_take pm_World_take an_World_take cd_World_take ct_World_take,
    f_World_keep := f_World_keep,
    fd_World_keep := PySem.W.fnOf "keep" "World.keep" (defArgs s_World_keep) (defBody s_World_keep) (defScope s_World_keep) .none kV_World_keep dc_World_keep pm_World_keep an_World_keep cd_World_keep ct_World_keep,
    f_World_lose := f_World_lose,
    fd_World_lose := PySem.W.fnOf "lose" "World.lose" (defArgs s_World_lose) (defBody s_World_lose) (defScope s_World_lose) .none kV_World_lose dc_World_lose pm_World_lose an_World_lose cd_World_lose ct_World_lose,
    f_World_hand_over := f_World_hand_over,
    fd_World_hand_over := PySem.W.fnOf "hand_over" "World.hand_over" (defArgs s_World_hand_over) (defBody s_World_hand_over) (defScope s_World_hand_over) .none kV_World_hand_over dc_World_hand_over pm_World_hand_over an_World_hand_over cd_World_hand_over ct_World_hand_over,
    f_World_get_here := f_World_get_here,
    fd_World_get_here := PySem.W.fnOf "get_here" "World.get_here" (defArgs s_World_get_here) (defBody s_World_get_here) (defScope s_World_get_here) .none kV_World_get_here dc_World_get_here pm_World_get_here an_World_get_here cd_World_get_here ct_World_get_here,
    f_World_ask_for_another := f_World_ask_for_another,
    fd_World_ask_for_another := PySem.W.fnOf "ask_for_another" "World.ask_for_another" (defArgs s_World_ask_for_another) (defBody s_World_ask_for_another) (defScope s_World_ask_for_another) .none kV_World_ask_for_another dc_World_ask_for_another pm_World_ask_for_another an_World_ask_for_another cd_World_ask_for_another ct_World_ask_for_another,
    f_World_stop_node := f_World_stop_node,
    fd_World_stop_node := PySem.W.fnOf "stop_node" "World.stop_node" (defArgs s_World_stop_node) (defBody s_World_stop_node) (defScope s_World_stop_node) .none kV_World_stop_node dc_World_stop_node pm_World_stop_node an_World_stop_node cd_World_stop_node ct_World_stop_node,
    f_World_start_node := f_World_start_node,
    fd_World_start_node := PySem.W.fnOf "start_node" "World.start_node" (defArgs s_World_start_node) (defBody s_World_start_node) (defScope s_World_start_node) .none kV_World_start_node dc_World_start_node pm_World_start_node an_World_start_node cd_World_start_node ct_World_start_node,
    f_World_tell_letters := f_World_tell_letters,
    fd_World_tell_letters := PySem.W.fnOf "tell_letters" "World.tell_letters" (defArgs s_World_tell_letters) (defBody s_World_tell_letters) (defScope s_World_tell_letters) .none kV_World_tell_letters dc_World_tell_letters pm_World_tell_letters an_World_tell_letters cd_World_tell_letters ct_World_tell_letters,
    f_World_tell_node := f_World_tell_node,
    fd_World_tell_node := PySem.W.fnOf "tell_node" "World.tell_node" (defArgs s_World_tell_node) (defBody s_World_tell_node) (defScope s_World_tell_node) .none kV_World_tell_node dc_World_tell_node pm_World_tell_node an_World_tell_node cd_World_tell_node ct_World_tell_node,
    f_World_tell_seen := f_World_tell_seen,
    fd_World_tell_seen := PySem.W.fnOf "tell_seen" "World.tell_seen" (defArgs s_World_tell_seen) (defBody s_World_tell_seen) (defScope s_World_tell_seen) .none kV_World_tell_seen dc_World_tell_seen pm_World_tell_seen an_World_tell_seen cd_World_tell_seen ct_World_tell_seen,
    f_World_tell_blames := f_World_tell_blames,
    fd_World_tell_blames := PySem.W.fnOf "tell_blames" "World.tell_blames" (defArgs s_World_tell_blames) (defBody s_World_tell_blames) (defScope s_World_tell_blames) .none kV_World_tell_blames dc_World_tell_blames pm_World_tell_blames an_World_tell_blames cd_World_tell_blames ct_World_tell_blames,
    f_change := f_change,
    fd_change := PySem.W.fnOf "change" "change" (defArgs s_change) (defBody s_change) (defScope s_change) .none kV_change dc_change pm_change an_change cd_change ct_change,
    f_tell := f_tell,
    fd_tell := PySem.W.fnOf "tell" "tell" (defArgs s_tell) (defBody s_tell) (defScope s_tell) .none kV_tell dc_tell pm_tell an_tell cd_tell ct_tell,
    f_Line_init := f_Line_init,
    fd_Line_init := PySem.W.fnOf "__init__" "Line.__init__" (defArgs s_Line_init) (defBody s_Line_init) (defScope s_Line_init) .none kV_Line_init dc_Line_init pm_Line_init an_Line_init cd_Line_init ct_Line_init,
    f_Line_begin := f_Line_begin,
    fd_Line_begin := PySem.W.fnOf "begin" "Line.begin" (defArgs s_Line_begin) (defBody s_Line_begin) (defScope s_Line_begin) .none kV_Line_begin dc_Line_begin pm_Line_begin an_Line_begin cd_Line_begin ct_Line_begin,
    f_Line_answer := f_Line_answer,
    fd_Line_answer := PySem.W.fnOf "answer" "Line.answer" (defArgs s_Line_answer) (defBody s_Line_answer) (defScope s_Line_answer) .none kV_Line_answer dc_Line_answer pm_Line_answer an_Line_answer cd_Line_answer ct_Line_answer,
    f_answers := fa,
    fd_answers := PySem.W.fnOf "answers" "answers" (defArgs s_answers) (defBody s_answers) (defScope s_answers) .none kV_answers dc_answers pm_answers an_answers cd_answers ct_answers,
    t_BEGIN := t_BEGIN,
    g_BEGIN := PySem.W.mg_of X G g_BEGIN,
    t_PROBE := t_PROBE,
    g_PROBE := PySem.W.mg_of X G g_PROBE,
    t_TICK := t_TICK,
    g_TICK := PySem.W.mg_of X G g_TICK,
    t_TAKE := t_TAKE,
    g_TAKE := PySem.W.mg_of X G g_TAKE,
    t_KEEP := t_KEEP,
    g_KEEP := PySem.W.mg_of X G g_KEEP,
    t_LOSE := t_LOSE,
    g_LOSE := PySem.W.mg_of X G g_LOSE,
    t_STOP := t_STOP,
    g_STOP := PySem.W.mg_of X G g_STOP,
    t_LETTERS := t_LETTERS,
    g_LETTERS := PySem.W.mg_of X G g_LETTERS,
    t_NODE := t_NODE,
    g_NODE := PySem.W.mg_of X G g_NODE,
    t_SEES := t_SEES,
    g_SEES := PySem.W.mg_of X G g_SEES,
    t_REFUSED := t_REFUSED,
    g_REFUSED := PySem.W.mg_of X G g_REFUSED,
    t_IS_SO_ALREADY := t_IS_SO_ALREADY,
    g_IS_SO_ALREADY := PySem.W.mg_of X G g_IS_SO_ALREADY,
    t_HAS_STOPPED := t_HAS_STOPPED,
    g_HAS_STOPPED := PySem.W.mg_of X G g_HAS_STOPPED,
    t_NO_WORLD := t_NO_WORLD,
    g_NO_WORLD := PySem.W.mg_of X G g_NO_WORLD,
    t_ASK := t_ASK,
    g_ASK := PySem.W.mg_of X G g_ASK,
    t_HERE := t_HERE,
    g_HERE := PySem.W.mg_of X G g_HERE,
    t_HELP := t_HELP,
    g_HELP := PySem.W.mg_of X G g_HELP,
    t_THERE := t_THERE,
    g_THERE := PySem.W.mg_of X G g_THERE,
    t_SUSPECTED := t_SUSPECTED,
    g_SUSPECTED := PySem.W.mg_of X G g_SUSPECTED,
    t_GONE := t_GONE,
    g_GONE := PySem.W.mg_of X G g_GONE,
    t_NO_USE := t_NO_USE,
    g_NO_USE := PySem.W.mg_of X G g_NO_USE,
    t_ANSWERED := t_ANSWERED,
    g_ANSWERED := PySem.W.mg_of X G g_ANSWERED,
    t_ASKING_OVER := t_ASKING_OVER,
    g_ASKING_OVER := PySem.W.mg_of X G g_ASKING_OVER,
    t_TOLD_ON := t_TOLD_ON,
    g_TOLD_ON := PySem.W.mg_of X G g_TOLD_ON,
    t_ANOTHER_ASKED := t_ANOTHER_ASKED,
    g_ANOTHER_ASKED := PySem.W.mg_of X G g_ANOTHER_ASKED,
    t_BUT_HEARD := t_BUT_HEARD,
    g_BUT_HEARD := PySem.W.mg_of X G g_BUT_HEARD,
    t_ROOM := t_ROOM,
    g_ROOM := PySem.W.mg_of X G g_ROOM,
    t_NOT_TOLD := t_NOT_TOLD,
    g_NOT_TOLD := PySem.W.mg_of X G g_NOT_TOLD,
    g_COUNTS := PySem.W.mg_of X G g_COUNTS,
    q_COUNTS := fun H => .inr ⟨_, _, _, q_COUNTS, rfl, rfl, (by show 12 ≤ sizeLine; decide), .cons ⟨_, rfl⟩ (.cons ⟨_, rfl⟩ (.cons ⟨_, rfl⟩ (.cons ⟨_, rfl⟩ (.cons ⟨_, rfl⟩ (.cons ⟨_, rfl⟩ (.cons ⟨_, rfl⟩ (.cons ⟨_, rfl⟩ (.cons ⟨_, rfl⟩ (.cons ⟨_, rfl⟩ (.cons ⟨_, rfl⟩ (.cons ⟨_, rfl⟩ (.nil))))))))))))⟩,
    b_len := PySem.W.mg_none_of X G z_len,
    b_list := PySem.W.mg_none_of X G z_list,
    b_range := PySem.W.mg_none_of X G z_range,
    cl_Letter := ⟨pg_Letter, hd_Letter, po_Letter, sa_Letter⟩,
    g_Letter := PySem.W.mg_of X G g_Letter,
    mk_Letter := ⟨mk_Letter, a_Letter_init, i_Letter_init, kc_Letter⟩,
    n_Letter_kind := n_Letter_kind,
    n_Letter_to := n_Letter_to,
    n_Letter_sender := n_Letter_sender,
    n_Letter_number := n_Letter_number,
    n_Letter_whom := n_Letter_whom,
    n_Letter_facts := n_Letter_facts,
    cl_Asking := ⟨pg_Asking, hd_Asking, po_Asking, sa_Asking⟩,
    g_Asking := PySem.W.mg_of X G g_Asking,
    mk_Asking := ⟨mk_Asking, a_Asking_init, i_Asking_init, kc_Asking⟩,
    n_Asking_whom := n_Asking_whom,
    n_Asking_number := n_Asking_number,
    n_Asking_since := n_Asking_since,
    n_Asking_helped := n_Asking_helped,
    cl_Node := ⟨pg_Node, hd_Node, po_Node, sa_Node⟩,
    g_Node := PySem.W.mg_of X G g_Node,
    mk_Node := ⟨mk_Node, a_Node_init, i_Node_init, kc_Node⟩,
    n_Node_me := n_Node_me,
    n_Node_runs := n_Node_runs,
    n_Node_own := n_Node_own,
    n_Node_asked := n_Node_asked,
    n_Node_clock := n_Node_clock,
    n_Node_facts := n_Node_facts,
    n_Node_since := n_Node_since,
    n_Node_asking := n_Node_asking,
    n_Node_for_others := n_Node_for_others,
    cl_World := ⟨pg_World, hd_World, po_World, sa_World⟩,
    g_World := PySem.W.mg_of X G g_World,
    mk_World := ⟨mk_World, a_World_init, i_World_init, kc_World⟩,
    n_World_wait := n_World_wait,
    n_World_patience := n_World_patience,
    n_World_nodes := n_World_nodes,
    n_World_row := n_World_row,
    n_World_blamed := n_World_blamed,
    cl_Line := ⟨pg_Line, hd_Line, po_Line, sa_Line⟩,
    g_Line := PySem.W.mg_of X G g_Line,
    mk_Line := ⟨mk_Line, a_Line_init, i_Line_init, kc_Line⟩,
    n_Line_world := n_Line_world,
    F_counts_for_more := fun_mk (st := s_counts_for_more) l_counts_for_more c_counts_for_more k_counts_for_more,
    b_counts_for_more := (fun_mk (st := s_counts_for_more) l_counts_for_more c_counts_for_more k_counts_for_more).binds (ps := ["fact", "other"]) fun _ _ _ _ _ _ us hl => match us, hl with | [_, _], _ => rfl,
    g_counts_for_more := PySem.W.mg_of X G a_counts_for_more,
    k_counts_for_more := k_counts_for_more,
    F_one_behind_another := fun_mk (st := s_one_behind_another) l_one_behind_another c_one_behind_another k_one_behind_another,
    b_one_behind_another := (fun_mk (st := s_one_behind_another) l_one_behind_another c_one_behind_another k_one_behind_another).binds (ps := ["parts"]) fun _ _ _ _ _ _ us hl => match us, hl with | [_], _ => rfl,
    g_one_behind_another := PySem.W.mg_of X G a_one_behind_another,
    k_one_behind_another := k_one_behind_another,
    F_Letter_init := fun_mk (st := s_Letter_init) l_Letter_init c_Letter_init k_Letter_init,
    b_Letter_init := (fun_mk (st := s_Letter_init) l_Letter_init c_Letter_init k_Letter_init).binds (ps := ["self", "kind", "to", "sender", "number", "whom", "facts"]) fun _ _ _ _ _ _ us hl => match us, hl with | [_, _, _, _, _, _, _], _ => rfl,
    F_Letter_numbers := fun_mk (st := s_Letter_numbers) l_Letter_numbers c_Letter_numbers k_Letter_numbers,
    b_Letter_numbers := (fun_mk (st := s_Letter_numbers) l_Letter_numbers c_Letter_numbers k_Letter_numbers).binds (ps := ["self"]) fun _ _ _ _ _ _ us hl => match us, hl with | [_], _ => rfl,
    m_Letter_numbers := ⟨a_Letter_numbers, i_Letter_numbers, k_Letter_numbers⟩,
    F_Asking_init := fun_mk (st := s_Asking_init) l_Asking_init c_Asking_init k_Asking_init,
    b_Asking_init := (fun_mk (st := s_Asking_init) l_Asking_init c_Asking_init k_Asking_init).binds (ps := ["self", "whom", "number", "since"]) fun _ _ _ _ _ _ us hl => match us, hl with | [_, _, _, _], _ => rfl,
    F_Asking_numbers := fun_mk (st := s_Asking_numbers) l_Asking_numbers c_Asking_numbers k_Asking_numbers,
    b_Asking_numbers := (fun_mk (st := s_Asking_numbers) l_Asking_numbers c_Asking_numbers k_Asking_numbers).binds (ps := ["self"]) fun _ _ _ _ _ _ us hl => match us, hl with | [_], _ => rfl,
    m_Asking_numbers := ⟨a_Asking_numbers, i_Asking_numbers, k_Asking_numbers⟩,
    F_Node_init := fun_mk (st := s_Node_init) l_Node_init c_Node_init k_Node_init,
    b_Node_init := (fun_mk (st := s_Node_init) l_Node_init c_Node_init k_Node_init).binds (ps := ["self", "me", "count"]) fun _ _ _ _ _ _ us hl => match us, hl with | [_, _, _], _ => rfl,
    F_Node_forget := fun_mk (st := s_Node_forget) l_Node_forget c_Node_forget k_Node_forget,
    b_Node_forget := (fun_mk (st := s_Node_forget) l_Node_forget c_Node_forget k_Node_forget).binds (ps := ["self", "count"]) fun _ _ _ _ _ _ us hl => match us, hl with | [_, _], _ => rfl,
    m_Node_forget := ⟨a_Node_forget, i_Node_forget, k_Node_forget⟩,
    F_Node_begin_anew := fun_mk (st := s_Node_begin_anew) l_Node_begin_anew c_Node_begin_anew k_Node_begin_anew,
    b_Node_begin_anew := (fun_mk (st := s_Node_begin_anew) l_Node_begin_anew c_Node_begin_anew k_Node_begin_anew).binds (ps := ["self"]) fun _ _ _ _ _ _ us hl => match us, hl with | [_], _ => rfl,
    m_Node_begin_anew := ⟨a_Node_begin_anew, i_Node_begin_anew, k_Node_begin_anew⟩,
    F_Node_has_passed := fun_mk (st := s_Node_has_passed) l_Node_has_passed c_Node_has_passed k_Node_has_passed,
    b_Node_has_passed := (fun_mk (st := s_Node_has_passed) l_Node_has_passed c_Node_has_passed k_Node_has_passed).binds (ps := ["self", "then", "much"]) fun _ _ _ _ _ _ us hl => match us, hl with | [_, _, _], _ => rfl,
    m_Node_has_passed := ⟨a_Node_has_passed, i_Node_has_passed, k_Node_has_passed⟩,
    F_Node_learn := fun_mk (st := s_Node_learn) l_Node_learn c_Node_learn k_Node_learn,
    b_Node_learn := (fun_mk (st := s_Node_learn) l_Node_learn c_Node_learn k_Node_learn).binds (ps := ["self", "whom", "number", "how"]) fun _ _ _ _ _ _ us hl => match us, hl with | [_, _, _, _], _ => rfl,
    m_Node_learn := ⟨a_Node_learn, i_Node_learn, k_Node_learn⟩,
    F_Node_hear := fun_mk (st := s_Node_hear) l_Node_hear c_Node_hear k_Node_hear,
    b_Node_hear := (fun_mk (st := s_Node_hear) l_Node_hear c_Node_hear k_Node_hear).binds (ps := ["self", "facts"]) fun _ _ _ _ _ _ us hl => match us, hl with | [_, _], _ => rfl,
    m_Node_hear := ⟨a_Node_hear, i_Node_hear, k_Node_hear⟩,
    F_Node_hear_of_itself := fun_mk (st := s_Node_hear_of_itself) l_Node_hear_of_itself c_Node_hear_of_itself k_Node_hear_of_itself,
    b_Node_hear_of_itself := (fun_mk (st := s_Node_hear_of_itself) l_Node_hear_of_itself c_Node_hear_of_itself k_Node_hear_of_itself).binds (ps := ["self", "fact"]) fun _ _ _ _ _ _ us hl => match us, hl with | [_, _], _ => rfl,
    m_Node_hear_of_itself := ⟨a_Node_hear_of_itself, i_Node_hear_of_itself, k_Node_hear_of_itself⟩,
    F_Node_give_up := fun_mk (st := s_Node_give_up) l_Node_give_up c_Node_give_up k_Node_give_up,
    b_Node_give_up := (fun_mk (st := s_Node_give_up) l_Node_give_up c_Node_give_up k_Node_give_up).binds (ps := ["self", "patience"]) fun _ _ _ _ _ _ us hl => match us, hl with | [_, _], _ => rfl,
    m_Node_give_up := ⟨a_Node_give_up, i_Node_give_up, k_Node_give_up⟩,
    F_Node_numbers := fun_mk (st := s_Node_numbers) l_Node_numbers c_Node_numbers k_Node_numbers,
    b_Node_numbers := (fun_mk (st := s_Node_numbers) l_Node_numbers c_Node_numbers k_Node_numbers).binds (ps := ["self"]) fun _ _ _ _ _ _ us hl => match us, hl with | [_], _ => rfl,
    m_Node_numbers := ⟨a_Node_numbers, i_Node_numbers, k_Node_numbers⟩,
    F_Node_seen := fun_mk (st := s_Node_seen) l_Node_seen c_Node_seen k_Node_seen,
    b_Node_seen := (fun_mk (st := s_Node_seen) l_Node_seen c_Node_seen k_Node_seen).binds (ps := ["self"]) fun _ _ _ _ _ _ us hl => match us, hl with | [_], _ => rfl,
    m_Node_seen := ⟨a_Node_seen, i_Node_seen, k_Node_seen⟩,
    F_World_init := fun_mk (st := s_World_init) l_World_init c_World_init k_World_init,
    b_World_init := (fun_mk (st := s_World_init) l_World_init c_World_init k_World_init).binds (ps := ["self", "count", "wait", "patience"]) fun _ _ _ _ _ _ us hl => match us, hl with | [_, _, _, _], _ => rfl,
    F_World_has_node := fun_mk (st := s_World_has_node) l_World_has_node c_World_has_node k_World_has_node,
    b_World_has_node := (fun_mk (st := s_World_has_node) l_World_has_node c_World_has_node k_World_has_node).binds (ps := ["self", "k"]) fun _ _ _ _ _ _ us hl => match us, hl with | [_, _], _ => rfl,
    m_World_has_node := ⟨a_World_has_node, i_World_has_node, k_World_has_node⟩,
    F_World_has_letter := fun_mk (st := s_World_has_letter) l_World_has_letter c_World_has_letter k_World_has_letter,
    b_World_has_letter := (fun_mk (st := s_World_has_letter) l_World_has_letter c_World_has_letter k_World_has_letter).binds (ps := ["self", "k"]) fun _ _ _ _ _ _ us hl => match us, hl with | [_, _], _ => rfl,
    m_World_has_letter := ⟨a_World_has_letter, i_World_has_letter, k_World_has_letter⟩,
    F_World_send := fun_mk (st := s_World_send) l_World_send c_World_send k_World_send,
    b_World_send := (fun_mk (st := s_World_send) l_World_send c_World_send k_World_send).binds (ps := ["self", "node", "kind", "to", "number", "whom"]) fun _ _ _ _ _ _ us hl => match us, hl with | [_, _, _, _, _, _], _ => rfl,
    m_World_send := ⟨a_World_send, i_World_send, k_World_send⟩,
    F_World_probe := fun_mk (st := s_World_probe) l_World_probe c_World_probe k_World_probe,
    b_World_probe := (fun_mk (st := s_World_probe) l_World_probe c_World_probe k_World_probe).binds (ps := ["self", "k", "whom"]) fun _ _ _ _ _ _ us hl => match us, hl with | [_, _, _], _ => rfl,
    m_World_probe := ⟨a_World_probe, i_World_probe, k_World_probe⟩,
    F_World_tick := fun_mk (st := s_World_tick) l_World_tick c_World_tick k_World_tick,
    b_World_tick := (fun_mk (st := s_World_tick) l_World_tick c_World_tick k_World_tick).binds (ps := ["self", "k"]) fun _ _ _ _ _ _ us hl => match us, hl with | [_, _], _ => rfl,
    m_World_tick := ⟨a_World_tick, i_World_tick, k_World_tick⟩,
    F_World_wait_on := fun_mk (st := s_World_wait_on) l_World_wait_on c_World_wait_on k_World_wait_on,
    b_World_wait_on := (fun_mk (st := s_World_wait_on) l_World_wait_on c_World_wait_on k_World_wait_on).binds (ps := ["self", "node"]) fun _ _ _ _ _ _ us hl => match us, hl with | [_, _], _ => rfl,
    m_World_wait_on := ⟨a_World_wait_on, i_World_wait_on, k_World_wait_on⟩,
    F_World_call_for_help := fun_mk (st := s_World_call_for_help) l_World_call_for_help c_World_call_for_help k_World_call_for_help,
    b_World_call_for_help := (fun_mk (st := s_World_call_for_help) l_World_call_for_help c_World_call_for_help k_World_call_for_help).binds (ps := ["self", "node", "asking"]) fun _ _ _ _ _ _ us hl => match us, hl with | [_, _, _], _ => rfl,
    m_World_call_for_help := ⟨a_World_call_for_help, i_World_call_for_help, k_World_call_for_help⟩,
    F_World_blame := fun_mk (st := s_World_blame) l_World_blame c_World_blame k_World_blame,
    b_World_blame := (fun_mk (st := s_World_blame) l_World_blame c_World_blame k_World_blame).binds (ps := ["self", "node", "whom"]) fun _ _ _ _ _ _ us hl => match us, hl with | [_, _, _], _ => rfl,
    m_World_blame := ⟨a_World_blame, i_World_blame, k_World_blame⟩,
    F_World_take := fun_mk (st := s_World_take) l_World_take c_World_take k_World_take,
    b_World_take := (fun_mk (st := s_World_take) l_World_take c_World_take k_World_take).binds (ps := ["self", "k"]) fun _ _ _ _ _ _ us hl => match us, hl with | [_, _], _ => rfl,
    m_World_take := ⟨a_World_take, i_World_take, k_World_take⟩,
    F_World_keep := fun_mk (st := s_World_keep) l_World_keep c_World_keep k_World_keep,
    b_World_keep := (fun_mk (st := s_World_keep) l_World_keep c_World_keep k_World_keep).binds (ps := ["self", "k"]) fun _ _ _ _ _ _ us hl => match us, hl with | [_, _], _ => rfl,
    m_World_keep := ⟨a_World_keep, i_World_keep, k_World_keep⟩,
    F_World_lose := fun_mk (st := s_World_lose) l_World_lose c_World_lose k_World_lose,
    b_World_lose := (fun_mk (st := s_World_lose) l_World_lose c_World_lose k_World_lose).binds (ps := ["self", "k"]) fun _ _ _ _ _ _ us hl => match us, hl with | [_, _], _ => rfl,
    m_World_lose := ⟨a_World_lose, i_World_lose, k_World_lose⟩,
    F_World_hand_over := fun_mk (st := s_World_hand_over) l_World_hand_over c_World_hand_over k_World_hand_over,
    b_World_hand_over := (fun_mk (st := s_World_hand_over) l_World_hand_over c_World_hand_over k_World_hand_over).binds (ps := ["self", "letter"]) fun _ _ _ _ _ _ us hl => match us, hl with | [_, _], _ => rfl,
    m_World_hand_over := ⟨a_World_hand_over, i_World_hand_over, k_World_hand_over⟩,
    F_World_get_here := fun_mk (st := s_World_get_here) l_World_get_here c_World_get_here k_World_get_here,
    b_World_get_here := (fun_mk (st := s_World_get_here) l_World_get_here c_World_get_here k_World_get_here).binds (ps := ["self", "node", "number"]) fun _ _ _ _ _ _ us hl => match us, hl with | [_, _, _], _ => rfl,
    m_World_get_here := ⟨a_World_get_here, i_World_get_here, k_World_get_here⟩,
    F_World_ask_for_another := fun_mk (st := s_World_ask_for_another) l_World_ask_for_another c_World_ask_for_another k_World_ask_for_another,
    b_World_ask_for_another := (fun_mk (st := s_World_ask_for_another) l_World_ask_for_another c_World_ask_for_another k_World_ask_for_another).binds (ps := ["self", "node", "letter"]) fun _ _ _ _ _ _ us hl => match us, hl with | [_, _, _], _ => rfl,
    m_World_ask_for_another := ⟨a_World_ask_for_another, i_World_ask_for_another, k_World_ask_for_another⟩,
    F_World_stop_node := fun_mk (st := s_World_stop_node) l_World_stop_node c_World_stop_node k_World_stop_node,
    b_World_stop_node := (fun_mk (st := s_World_stop_node) l_World_stop_node c_World_stop_node k_World_stop_node).binds (ps := ["self", "k"]) fun _ _ _ _ _ _ us hl => match us, hl with | [_, _], _ => rfl,
    m_World_stop_node := ⟨a_World_stop_node, i_World_stop_node, k_World_stop_node⟩,
    F_World_start_node := fun_mk (st := s_World_start_node) l_World_start_node c_World_start_node k_World_start_node,
    b_World_start_node := (fun_mk (st := s_World_start_node) l_World_start_node c_World_start_node k_World_start_node).binds (ps := ["self", "k"]) fun _ _ _ _ _ _ us hl => match us, hl with | [_, _], _ => rfl,
    m_World_start_node := ⟨a_World_start_node, i_World_start_node, k_World_start_node⟩,
    F_World_tell_letters := fun_mk (st := s_World_tell_letters) l_World_tell_letters c_World_tell_letters k_World_tell_letters,
    b_World_tell_letters := (fun_mk (st := s_World_tell_letters) l_World_tell_letters c_World_tell_letters k_World_tell_letters).binds (ps := ["self"]) fun _ _ _ _ _ _ us hl => match us, hl with | [_], _ => rfl,
    m_World_tell_letters := ⟨a_World_tell_letters, i_World_tell_letters, k_World_tell_letters⟩,
    F_World_tell_node := fun_mk (st := s_World_tell_node) l_World_tell_node c_World_tell_node k_World_tell_node,
    b_World_tell_node := (fun_mk (st := s_World_tell_node) l_World_tell_node c_World_tell_node k_World_tell_node).binds (ps := ["self", "k"]) fun _ _ _ _ _ _ us hl => match us, hl with | [_, _], _ => rfl,
    m_World_tell_node := ⟨a_World_tell_node, i_World_tell_node, k_World_tell_node⟩,
    F_World_tell_seen := fun_mk (st := s_World_tell_seen) l_World_tell_seen c_World_tell_seen k_World_tell_seen,
    b_World_tell_seen := (fun_mk (st := s_World_tell_seen) l_World_tell_seen c_World_tell_seen k_World_tell_seen).binds (ps := ["self", "k"]) fun _ _ _ _ _ _ us hl => match us, hl with | [_, _], _ => rfl,
    m_World_tell_seen := ⟨a_World_tell_seen, i_World_tell_seen, k_World_tell_seen⟩,
    F_World_tell_blames := fun_mk (st := s_World_tell_blames) l_World_tell_blames c_World_tell_blames k_World_tell_blames,
    b_World_tell_blames := (fun_mk (st := s_World_tell_blames) l_World_tell_blames c_World_tell_blames k_World_tell_blames).binds (ps := ["self"]) fun _ _ _ _ _ _ us hl => match us, hl with | [_], _ => rfl,
    m_World_tell_blames := ⟨a_World_tell_blames, i_World_tell_blames, k_World_tell_blames⟩,
    F_change := fun_mk (st := s_change) l_change c_change k_change,
    b_change := (fun_mk (st := s_change) l_change c_change k_change).binds (ps := ["world", "call", "told"]) fun _ _ _ _ _ _ us hl => match us, hl with | [_, _, _], _ => rfl,
    g_change := PySem.W.mg_of X G a_change,
    k_change := k_change,
    F_tell := fun_mk (st := s_tell) l_tell c_tell k_tell,
    b_tell := (fun_mk (st := s_tell) l_tell c_tell k_tell).binds (ps := ["world", "call", "told"]) fun _ _ _ _ _ _ us hl => match us, hl with | [_, _, _], _ => rfl,
    g_tell := PySem.W.mg_of X G a_tell,
    k_tell := k_tell,
    F_Line_init := fun_mk (st := s_Line_init) l_Line_init c_Line_init k_Line_init,
    b_Line_init := (fun_mk (st := s_Line_init) l_Line_init c_Line_init k_Line_init).binds (ps := ["self"]) fun _ _ _ _ _ _ us hl => match us, hl with | [_], _ => rfl,
    F_Line_begin := fun_mk (st := s_Line_begin) l_Line_begin c_Line_begin k_Line_begin,
    b_Line_begin := (fun_mk (st := s_Line_begin) l_Line_begin c_Line_begin k_Line_begin).binds (ps := ["self", "count", "wait", "patience"]) fun _ _ _ _ _ _ us hl => match us, hl with | [_, _, _, _], _ => rfl,
    m_Line_begin := ⟨a_Line_begin, i_Line_begin, k_Line_begin⟩,
    F_Line_answer := fun_mk (st := s_Line_answer) l_Line_answer c_Line_answer k_Line_answer,
    b_Line_answer := (fun_mk (st := s_Line_answer) l_Line_answer c_Line_answer k_Line_answer).binds (ps := ["self", "call", "told"]) fun _ _ _ _ _ _ us hl => match us, hl with | [_, _, _], _ => rfl,
    m_Line_answer := ⟨a_Line_answer, i_Line_answer, k_Line_answer⟩,
    F_answers := fun_mk (st := s_answers) l_answers c_answers k_answers,
    b_answers := (fun_mk (st := s_answers) l_answers c_answers k_answers).binds (ps := ["calls"]) fun _ _ _ _ _ _ us hl => match us, hl with | [_], _ => rfl,
    g_answers := PySem.W.mg_of X G a_answers,
    k_answers := k_answers } base
end Wt
namespace Wt
open PySem PySem.Spec PyProof.Rows L2
open PySem.W (Codec)
/-- the request: what the codecs hand in is the promise's premise -/
theorem request (K : PySem.W.Frag) (H : Hp) (xs : List V) (a : Codec.denoteAll PySem.Challenge.rw_whoisthere_s01_answers.args) (_ : OnlyF H) (_ : Codec.withinAll PySem.Challenge.rw_whoisthere_s01_answers.args a = true)
    (hask : Codec.app PySem.Challenge.rw_whoisthere_s01_answers.args PySem.Challenge.rw_whoisthere_s01_answers.asked a = true) (hx : DwAll K H xs (Codec.encAll PySem.Challenge.rw_whoisthere_s01_answers.args a)) :
    sp_answers K xs H (fun v H' => Dw K H' v (PySem.Challenge.rw_whoisthere_s01_answers.ret.enc (Codec.app PySem.Challenge.rw_whoisthere_s01_answers.args PySem.Challenge.rw_whoisthere_s01_answers.f a))) fun _ _ _ => False := by
  cases hx with
  | cons h1 h2 =>
    cases h2
    cases h1 with
    | lst hs ha =>
      have e := L2.ints_dw a.1 _ ha
      subst e
      exact ⟨_, a.1, rfl, hs, hask, fun H' p hp => .lst (L2.SqL.of hp) (L2.dw_ints _)⟩

end Wt
open PySem PySem.W PyProof.Rows
set_option maxRecDepth 100000 in
set_option maxHeartbeats 0 in
theorem PySem.Challenge.cw_whoisthere_s01_answers_holds : PySem.Challenge.rw_whoisthere_s01_answers.Holds := by
  w_on; k_headS; (case hw => exact ⟨[.list [.int 0, .int 2, .int 1, .int 1]], by decide +kernel, by decide +kernel⟩)
  k_fillS
  refine L2.walk_specK (r := PySem.Challenge.rw_whoisthere_s01_answers) (k := 9) (CX := L2.CX0) (ps := ["calls"]) (sp := Wt.sp_answers) (by decide +kernel) rfl rfl ⟨rfl, by decide, by decide⟩ (fun w h Y => PySem.W.kIn_of Y) ?F ?S (fun _ _ _ _ z => z)
  case F =>
    intro w mg fa h Y KX G hmg
    refine' Wt.all_mk KX G hmg (fun g base => Wt.ok_answers g) ?g_BEGIN ?g_PROBE ?g_TICK ?g_TAKE ?g_KEEP ?g_LOSE ?g_STOP ?g_LETTERS ?g_NODE ?g_SEES ?g_REFUSED ?g_IS_SO_ALREADY ?g_HAS_STOPPED ?g_NO_WORLD ?g_ASK ?g_HERE ?g_HELP ?g_THERE ?g_SUSPECTED ?g_GONE ?g_NO_USE ?g_ANSWERED ?g_ASKING_OVER ?g_TOLD_ON ?g_ANOTHER_ASKED ?g_BUT_HEARD ?g_ROOM ?g_NOT_TOLD ?g_COUNTS ?q_COUNTS ?z_len ?z_list ?z_range ?g_Letter ?pg_Letter ?hd_Letter ?po_Letter ?sa_Letter ?mk_Letter ?kc_Letter ?n_Letter_kind ?n_Letter_to ?n_Letter_sender ?n_Letter_number ?n_Letter_whom ?n_Letter_facts ?g_Asking ?pg_Asking ?hd_Asking ?po_Asking ?sa_Asking ?mk_Asking ?kc_Asking ?n_Asking_whom ?n_Asking_number ?n_Asking_since ?n_Asking_helped ?g_Node ?pg_Node ?hd_Node ?po_Node ?sa_Node ?mk_Node ?kc_Node ?n_Node_me ?n_Node_runs ?n_Node_own ?n_Node_asked ?n_Node_clock ?n_Node_facts ?n_Node_since ?n_Node_asking ?n_Node_for_others ?g_World ?pg_World ?hd_World ?po_World ?sa_World ?mk_World ?kc_World ?n_World_wait ?n_World_patience ?n_World_nodes ?n_World_row ?n_World_blamed ?g_Line ?pg_Line ?hd_Line ?po_Line ?sa_Line ?mk_Line ?kc_Line ?n_Line_world ?a_counts_for_more ?l_counts_for_more ?c_counts_for_more ?k_counts_for_more ?a_one_behind_another ?l_one_behind_another ?c_one_behind_another ?k_one_behind_another ?a_Letter_init ?i_Letter_init ?l_Letter_init ?c_Letter_init ?k_Letter_init ?a_Letter_numbers ?i_Letter_numbers ?l_Letter_numbers ?c_Letter_numbers ?k_Letter_numbers ?a_Asking_init ?i_Asking_init ?l_Asking_init ?c_Asking_init ?k_Asking_init ?a_Asking_numbers ?i_Asking_numbers ?l_Asking_numbers ?c_Asking_numbers ?k_Asking_numbers ?a_Node_init ?i_Node_init ?l_Node_init ?c_Node_init ?k_Node_init ?a_Node_forget ?i_Node_forget ?l_Node_forget ?c_Node_forget ?k_Node_forget ?a_Node_begin_anew ?i_Node_begin_anew ?l_Node_begin_anew ?c_Node_begin_anew ?k_Node_begin_anew ?a_Node_has_passed ?i_Node_has_passed ?l_Node_has_passed ?c_Node_has_passed ?k_Node_has_passed ?a_Node_learn ?i_Node_learn ?l_Node_learn ?c_Node_learn ?k_Node_learn ?a_Node_hear ?i_Node_hear ?l_Node_hear ?c_Node_hear ?k_Node_hear ?a_Node_hear_of_itself ?i_Node_hear_of_itself ?l_Node_hear_of_itself ?c_Node_hear_of_itself ?k_Node_hear_of_itself ?a_Node_give_up ?i_Node_give_up ?l_Node_give_up ?c_Node_give_up ?k_Node_give_up ?a_Node_numbers ?i_Node_numbers ?l_Node_numbers ?c_Node_numbers ?k_Node_numbers ?a_Node_seen ?i_Node_seen ?l_Node_seen ?c_Node_seen ?k_Node_seen ?a_World_init ?i_World_init ?l_World_init ?c_World_init ?k_World_init ?a_World_has_node ?i_World_has_node ?l_World_has_node ?c_World_has_node ?k_World_has_node ?a_World_has_letter ?i_World_has_letter ?l_World_has_letter ?c_World_has_letter ?k_World_has_letter ?a_World_send ?i_World_send ?l_World_send ?c_World_send ?k_World_send ?a_World_probe ?i_World_probe ?l_World_probe ?c_World_probe ?k_World_probe ?a_World_tick ?i_World_tick ?l_World_tick ?c_World_tick ?k_World_tick ?a_World_wait_on ?i_World_wait_on ?l_World_wait_on ?c_World_wait_on ?k_World_wait_on ?a_World_call_for_help ?i_World_call_for_help ?l_World_call_for_help ?c_World_call_for_help ?k_World_call_for_help ?a_World_blame ?i_World_blame ?l_World_blame ?c_World_blame ?k_World_blame ?a_World_take ?i_World_take ?l_World_take ?c_World_take ?k_World_take ?a_World_keep ?i_World_keep ?l_World_keep ?c_World_keep ?k_World_keep ?a_World_lose ?i_World_lose ?l_World_lose ?c_World_lose ?k_World_lose ?a_World_hand_over ?i_World_hand_over ?l_World_hand_over ?c_World_hand_over ?k_World_hand_over ?a_World_get_here ?i_World_get_here ?l_World_get_here ?c_World_get_here ?k_World_get_here ?a_World_ask_for_another ?i_World_ask_for_another ?l_World_ask_for_another ?c_World_ask_for_another ?k_World_ask_for_another ?a_World_stop_node ?i_World_stop_node ?l_World_stop_node ?c_World_stop_node ?k_World_stop_node ?a_World_start_node ?i_World_start_node ?l_World_start_node ?c_World_start_node ?k_World_start_node ?a_World_tell_letters ?i_World_tell_letters ?l_World_tell_letters ?c_World_tell_letters ?k_World_tell_letters ?a_World_tell_node ?i_World_tell_node ?l_World_tell_node ?c_World_tell_node ?k_World_tell_node ?a_World_tell_seen ?i_World_tell_seen ?l_World_tell_seen ?c_World_tell_seen ?k_World_tell_seen ?a_World_tell_blames ?i_World_tell_blames ?l_World_tell_blames ?c_World_tell_blames ?k_World_tell_blames ?a_change ?l_change ?c_change ?k_change ?a_tell ?l_tell ?c_tell ?k_tell ?a_Line_init ?i_Line_init ?l_Line_init ?c_Line_init ?k_Line_init ?a_Line_begin ?i_Line_begin ?l_Line_begin ?c_Line_begin ?k_Line_begin ?a_Line_answer ?i_Line_answer ?l_Line_answer ?c_Line_answer ?k_Line_answer ?a_answers ?l_answers ?c_answers ?k_answers
    (case g_BEGIN => k_is)
    (case g_PROBE => k_is)
    (case g_TICK => k_is)
    (case g_TAKE => k_is)
    (case g_KEEP => k_is)
    (case g_LOSE => k_is)
    (case g_STOP => k_is)
    (case g_LETTERS => k_is)
    (case g_NODE => k_is)
    (case g_SEES => k_is)
    (case g_REFUSED => k_is)
    (case g_IS_SO_ALREADY => k_is)
    (case g_HAS_STOPPED => k_is)
    (case g_NO_WORLD => k_is)
    (case g_ASK => k_is)
    (case g_HERE => k_is)
    (case g_HELP => k_is)
    (case g_THERE => k_is)
    (case g_SUSPECTED => k_is)
    (case g_GONE => k_is)
    (case g_NO_USE => k_is)
    (case g_ANSWERED => k_is)
    (case g_ASKING_OVER => k_is)
    (case g_TOLD_ON => k_is)
    (case g_ANOTHER_ASKED => k_is)
    (case g_BUT_HEARD => k_is)
    (case g_ROOM => k_is)
    (case g_NOT_TOLD => k_is)
    (case g_COUNTS => k_is)
    (case q_COUNTS => k_is)
    (case z_len => k_is)
    (case z_list => k_is)
    (case z_range => k_is)
    (case g_Letter => k_is)
    (case pg_Letter => k_is)
    (case hd_Letter => k_is)
    (case po_Letter => k_is)
    (case sa_Letter => k_is)
    (case mk_Letter => k_is)
    (case kc_Letter => k_is)
    (case n_Letter_kind => k_is)
    (case n_Letter_to => k_is)
    (case n_Letter_sender => k_is)
    (case n_Letter_number => k_is)
    (case n_Letter_whom => k_is)
    (case n_Letter_facts => k_is)
    (case g_Asking => k_is)
    (case pg_Asking => k_is)
    (case hd_Asking => k_is)
    (case po_Asking => k_is)
    (case sa_Asking => k_is)
    (case mk_Asking => k_is)
    (case kc_Asking => k_is)
    (case n_Asking_whom => k_is)
    (case n_Asking_number => k_is)
    (case n_Asking_since => k_is)
    (case n_Asking_helped => k_is)
    (case g_Node => k_is)
    (case pg_Node => k_is)
    (case hd_Node => k_is)
    (case po_Node => k_is)
    (case sa_Node => k_is)
    (case mk_Node => k_is)
    (case kc_Node => k_is)
    (case n_Node_me => k_is)
    (case n_Node_runs => k_is)
    (case n_Node_own => k_is)
    (case n_Node_asked => k_is)
    (case n_Node_clock => k_is)
    (case n_Node_facts => k_is)
    (case n_Node_since => k_is)
    (case n_Node_asking => k_is)
    (case n_Node_for_others => k_is)
    (case g_World => k_is)
    (case pg_World => k_is)
    (case hd_World => k_is)
    (case po_World => k_is)
    (case sa_World => k_is)
    (case mk_World => k_is)
    (case kc_World => k_is)
    (case n_World_wait => k_is)
    (case n_World_patience => k_is)
    (case n_World_nodes => k_is)
    (case n_World_row => k_is)
    (case n_World_blamed => k_is)
    (case g_Line => k_is)
    (case pg_Line => k_is)
    (case hd_Line => k_is)
    (case po_Line => k_is)
    (case sa_Line => k_is)
    (case mk_Line => k_is)
    (case kc_Line => k_is)
    (case n_Line_world => k_is)
    (case a_counts_for_more => k_is)
    (case l_counts_for_more => k_is)
    (case c_counts_for_more => k_is)
    (case k_counts_for_more => k_is)
    (case a_one_behind_another => k_is)
    (case l_one_behind_another => k_is)
    (case c_one_behind_another => k_is)
    (case k_one_behind_another => k_is)
    (case a_Letter_init => k_is)
    (case i_Letter_init => k_is)
    (case l_Letter_init => k_is)
    (case c_Letter_init => k_is)
    (case k_Letter_init => k_is)
    (case a_Letter_numbers => k_is)
    (case i_Letter_numbers => k_is)
    (case l_Letter_numbers => k_is)
    (case c_Letter_numbers => k_is)
    (case k_Letter_numbers => k_is)
    (case a_Asking_init => k_is)
    (case i_Asking_init => k_is)
    (case l_Asking_init => k_is)
    (case c_Asking_init => k_is)
    (case k_Asking_init => k_is)
    (case a_Asking_numbers => k_is)
    (case i_Asking_numbers => k_is)
    (case l_Asking_numbers => k_is)
    (case c_Asking_numbers => k_is)
    (case k_Asking_numbers => k_is)
    (case a_Node_init => k_is)
    (case i_Node_init => k_is)
    (case l_Node_init => k_is)
    (case c_Node_init => k_is)
    (case k_Node_init => k_is)
    (case a_Node_forget => k_is)
    (case i_Node_forget => k_is)
    (case l_Node_forget => k_is)
    (case c_Node_forget => k_is)
    (case k_Node_forget => k_is)
    (case a_Node_begin_anew => k_is)
    (case i_Node_begin_anew => k_is)
    (case l_Node_begin_anew => k_is)
    (case c_Node_begin_anew => k_is)
    (case k_Node_begin_anew => k_is)
    (case a_Node_has_passed => k_is)
    (case i_Node_has_passed => k_is)
    (case l_Node_has_passed => k_is)
    (case c_Node_has_passed => k_is)
    (case k_Node_has_passed => k_is)
    (case a_Node_learn => k_is)
    (case i_Node_learn => k_is)
    (case l_Node_learn => k_is)
    (case c_Node_learn => k_is)
    (case k_Node_learn => k_is)
    (case a_Node_hear => k_is)
    (case i_Node_hear => k_is)
    (case l_Node_hear => k_is)
    (case c_Node_hear => k_is)
    (case k_Node_hear => k_is)
    (case a_Node_hear_of_itself => k_is)
    (case i_Node_hear_of_itself => k_is)
    (case l_Node_hear_of_itself => k_is)
    (case c_Node_hear_of_itself => k_is)
    (case k_Node_hear_of_itself => k_is)
    (case a_Node_give_up => k_is)
    (case i_Node_give_up => k_is)
    (case l_Node_give_up => k_is)
    (case c_Node_give_up => k_is)
    (case k_Node_give_up => k_is)
    (case a_Node_numbers => k_is)
    (case i_Node_numbers => k_is)
    (case l_Node_numbers => k_is)
    (case c_Node_numbers => k_is)
    (case k_Node_numbers => k_is)
    (case a_Node_seen => k_is)
    (case i_Node_seen => k_is)
    (case l_Node_seen => k_is)
    (case c_Node_seen => k_is)
    (case k_Node_seen => k_is)
    (case a_World_init => k_is)
    (case i_World_init => k_is)
    (case l_World_init => k_is)
    (case c_World_init => k_is)
    (case k_World_init => k_is)
    (case a_World_has_node => k_is)
    (case i_World_has_node => k_is)
    (case l_World_has_node => k_is)
    (case c_World_has_node => k_is)
    (case k_World_has_node => k_is)
    (case a_World_has_letter => k_is)
    (case i_World_has_letter => k_is)
    (case l_World_has_letter => k_is)
    (case c_World_has_letter => k_is)
    (case k_World_has_letter => k_is)
    (case a_World_send => k_is)
    (case i_World_send => k_is)
    (case l_World_send => k_is)
    (case c_World_send => k_is)
    (case k_World_send => k_is)
    (case a_World_probe => k_is)
    (case i_World_probe => k_is)
    (case l_World_probe => k_is)
    (case c_World_probe => k_is)
    (case k_World_probe => k_is)
    (case a_World_tick => k_is)
    (case i_World_tick => k_is)
    (case l_World_tick => k_is)
    (case c_World_tick => k_is)
    (case k_World_tick => k_is)
    (case a_World_wait_on => k_is)
    (case i_World_wait_on => k_is)
    (case l_World_wait_on => k_is)
    (case c_World_wait_on => k_is)
    (case k_World_wait_on => k_is)
    (case a_World_call_for_help => k_is)
    (case i_World_call_for_help => k_is)
    (case l_World_call_for_help => k_is)
    (case c_World_call_for_help => k_is)
    (case k_World_call_for_help => k_is)
    (case a_World_blame => k_is)
    (case i_World_blame => k_is)
    (case l_World_blame => k_is)
    (case c_World_blame => k_is)
    (case k_World_blame => k_is)
    (case a_World_take => k_is)
    (case i_World_take => k_is)
    (case l_World_take => k_is)
    (case c_World_take => k_is)
    (case k_World_take => k_is)
    (case a_World_keep => k_is)
    (case i_World_keep => k_is)
    (case l_World_keep => k_is)
    (case c_World_keep => k_is)
    (case k_World_keep => k_is)
    (case a_World_lose => k_is)
    (case i_World_lose => k_is)
    (case l_World_lose => k_is)
    (case c_World_lose => k_is)
    (case k_World_lose => k_is)
    (case a_World_hand_over => k_is)
    (case i_World_hand_over => k_is)
    (case l_World_hand_over => k_is)
    (case c_World_hand_over => k_is)
    (case k_World_hand_over => k_is)
    (case a_World_get_here => k_is)
    (case i_World_get_here => k_is)
    (case l_World_get_here => k_is)
    (case c_World_get_here => k_is)
    (case k_World_get_here => k_is)
    (case a_World_ask_for_another => k_is)
    (case i_World_ask_for_another => k_is)
    (case l_World_ask_for_another => k_is)
    (case c_World_ask_for_another => k_is)
    (case k_World_ask_for_another => k_is)
    (case a_World_stop_node => k_is)
    (case i_World_stop_node => k_is)
    (case l_World_stop_node => k_is)
    (case c_World_stop_node => k_is)
    (case k_World_stop_node => k_is)
    (case a_World_start_node => k_is)
    (case i_World_start_node => k_is)
    (case l_World_start_node => k_is)
    (case c_World_start_node => k_is)
    (case k_World_start_node => k_is)
    (case a_World_tell_letters => k_is)
    (case i_World_tell_letters => k_is)
    (case l_World_tell_letters => k_is)
    (case c_World_tell_letters => k_is)
    (case k_World_tell_letters => k_is)
    (case a_World_tell_node => k_is)
    (case i_World_tell_node => k_is)
    (case l_World_tell_node => k_is)
    (case c_World_tell_node => k_is)
    (case k_World_tell_node => k_is)
    (case a_World_tell_seen => k_is)
    (case i_World_tell_seen => k_is)
    (case l_World_tell_seen => k_is)
    (case c_World_tell_seen => k_is)
    (case k_World_tell_seen => k_is)
    (case a_World_tell_blames => k_is)
    (case i_World_tell_blames => k_is)
    (case l_World_tell_blames => k_is)
    (case c_World_tell_blames => k_is)
    (case k_World_tell_blames => k_is)
    (case a_change => k_is)
    (case l_change => k_is)
    (case c_change => k_is)
    (case k_change => k_is)
    (case a_tell => k_is)
    (case l_tell => k_is)
    (case c_tell => k_is)
    (case k_tell => k_is)
    (case a_Line_init => k_is)
    (case i_Line_init => k_is)
    (case l_Line_init => k_is)
    (case c_Line_init => k_is)
    (case k_Line_init => k_is)
    (case a_Line_begin => k_is)
    (case i_Line_begin => k_is)
    (case l_Line_begin => k_is)
    (case c_Line_begin => k_is)
    (case k_Line_begin => k_is)
    (case a_Line_answer => k_is)
    (case i_Line_answer => k_is)
    (case l_Line_answer => k_is)
    (case c_Line_answer => k_is)
    (case k_Line_answer => k_is)
    (case a_answers => k_is)
    (case l_answers => k_is)
    (case c_answers => k_is)
    (case k_answers => k_is)
  case S =>
    exact Wt.request
