import PyProof.Rows.All
import Wide.All
import OpenK.AllK
import Wide.FinOn
import HandS.ForMost
import HandS.IsInst
import PySem.Challenge.RW_marksinturn_k01_whole_questions_made
import HandS.Steps
import HandS.Walk
import HandS.SetKeys
import HandS.NoneIn
import HandS.WordsDict
import KE.GoesMore
import KE.GoesEnum
import HandS.Lambda
import KE.SortKeyHeap
import KE.SortData
import HandS.ExcInit
import HandS.WordsExc
import HandS.DictComp
import KE.KDictZip
import HandS.Conv
import PyProof.InstNe
import HandS.Zip
import PyProof.ReprReads
import PyProof.ReprRoads
import HandS.Style
import HandS.MakeKwOnly
import PyProof.ReprLen
import KE.DataCmp
import HandS.ExcField
import HandS.EndTab
import HandS.HeadWalk
set_option Elab.async false
set_option maxRecDepth 100000
set_option maxHeartbeats 2000000
namespace Q1
open PySem L2
def top (i : Nat) : Stmt := PySem.Challenge.pw_marksinturn_k01_whole_questions_made.main.body.getD i (.Pass ⟨0, 0, 0, 0⟩)
/-- a def of the top, where it stands -/
structure Dn (K : PySem.W.Frag) (mg : Str → Option Value) (x : Str) (st : Stmt) (ps : List Str) where
  f : Addr
  fd : FuncData
  F : Fun K x x st f fd
  b : Binds K fd ps []
  g : mg x = some (.ref f)
/-- built-in names that the text does not bind -/
structure Bt (mg : Str → Option Value) : Prop where
  isi : mg "isinstance" = none
  len : mg "len" = none
  lst : mg "list" = none
  tup : mg "tuple" = none
  int : mg "int" = none
  bool : mg "bool" = none
  str : mg "str" = none
  dict : mg "dict" = none
  all : mg "all" = none
  sum : mg "sum" = none
  abs : mg "abs" = none
  range : mg "range" = none
  enumerate : mg "enumerate" = none
  zip : mg "zip" = none
  sorted : mg "sorted" = none
  set : mg "set" = none
  repr : mg "repr" = none
/-- data without the heap -/
inductive D where
  | non | bl (b : Bool) | int (i : Int) | str (s : Str) | lst (xs : List D) | tup (xs : List D) | dic
mutual
/-- a datum stands at v, its lists at addresses of S -/
def Rep (S : Addr → Prop) (H : Hp) : D → V → Prop
  | .non, v => v = .non
  | .bl b, v => v = .bl b
  | .int i, v => v = .int i
  | .str s, v => v = .str s
  | .lst xs, v => ∃ a vs, v = .ref a ∧ S a ∧ H a = some (.lst vs) ∧ Reps S H xs vs
  | .tup xs, v => ∃ a vs, v = .ref a ∧ H a = some (.tup vs) ∧ Reps S H xs vs
  | .dic, v => ∃ a, v = .ref a ∧ H a = some (.dK [])
def Reps (S : Addr → Prop) (H : Hp) : List D → List V → Prop
  | [], vs => vs = []
  | x :: xs, vs => ∃ v r, vs = v :: r ∧ Rep S H x v ∧ Reps S H xs r
end
/-- what a datum leans on stays -/
def Nd (S : Addr → Prop) (a : Addr) (o : HO) : Prop := (∃ vs, o = .lst vs ∧ S a) ∨ (∃ vs, o = .tup vs) ∨ o = .dK []
def Stay (S : Addr → Prop) (H H' : Hp) : Prop := ∀ a o, H a = some o → Nd S a o → H' a = some o
theorem stay_upd {S : Addr → Prop} {H : Hp} {p : Addr} {o u : HO} (h : H p = some u) (hn : ¬ Nd S p u) : Stay S H (upd H p o) := fun a x e n => by
  have : a ≠ p := fun q => by
    subst q
    rw [h] at e
    cases e
    exact hn n
  rw [upd_ne this]
  exact e
theorem Stay.trans {S : Addr → Prop} {H H1 H2 : Hp} (a : Stay S H H1) (b : Stay S H1 H2) : Stay S H H2 := fun x o h n => b x o (a x o h n) n
theorem Stay.weak {S S' : Addr → Prop} {H H1 : Hp} (a : Stay S H H1) (hs : ∀ a, S' a → S a) : Stay S' H H1 := fun x o h n => a x o h (n.elim (fun ⟨vs, e, s⟩ => .inl ⟨vs, e, hs _ s⟩) .inr)
theorem nd_lst {S : Addr → Prop} {a : Addr} {vs : List V} (h : ¬ S a) : ¬ Nd S a (.lst vs) := fun n => by
  rcases n with ⟨_, e, s⟩ | ⟨_, e⟩ | e
  · exact h s
  · cases e
  · cases e
theorem nd_ext {S : Addr → Prop} {a : Addr} {f : Heap → Prop} : ¬ Nd S a (.ext f) := fun n => by
  rcases n with ⟨_, e, s⟩ | ⟨_, e⟩ | e <;> cases e
theorem stay_of {S : Addr → Prop} {H H' : Hp} (h : Same H H') : Stay S H H' := fun a o e _ => h a o e
mutual
theorem Rep.mono {S S' : Addr → Prop} {H H' : Hp} (hs : ∀ a, S a → S' a) (e : Stay S H H') : ∀ {d : D} {v : V}, Rep S H d v → Rep S' H' d v
  | .non, _, h => h
  | .bl _, _, h => h
  | .int _, _, h => h
  | .str _, _, h => h
  | .lst xs, _, h => by
    obtain ⟨a, vs, rfl, sa, ha, r⟩ := h
    exact ⟨a, vs, rfl, hs a sa, e a _ ha (.inl ⟨_, rfl, sa⟩), Reps.mono hs e r⟩
  | .tup xs, _, h => by
    obtain ⟨a, vs, rfl, ha, r⟩ := h
    exact ⟨a, vs, rfl, e a _ ha (.inr (.inl ⟨_, rfl⟩)), Reps.mono hs e r⟩
  | .dic, _, h => by
    obtain ⟨a, rfl, ha⟩ := h
    exact ⟨a, rfl, e a _ ha (.inr (.inr rfl))⟩
theorem Reps.mono {S S' : Addr → Prop} {H H' : Hp} (hs : ∀ a, S a → S' a) (e : Stay S H H') : ∀ {ds : List D} {vs : List V}, Reps S H ds vs → Reps S' H' ds vs
  | [], _, h => h
  | d :: ds, _, h => by
    obtain ⟨v, r, rfl, h1, h2⟩ := h
    exact ⟨v, r, rfl, Rep.mono hs e h1, Reps.mono hs e h2⟩
end
theorem Rep.same {S : Addr → Prop} {H H' : Hp} {d : D} {v : V} (h : Rep S H d v) (e : Same H H') : Rep S H' d v := Rep.mono (fun _ s => s) (stay_of e) h
theorem Reps.same {S : Addr → Prop} {H H' : Hp} {d : List D} {v : List V} (h : Reps S H d v) (e : Same H H') : Reps S H' d v := Reps.mono (fun _ s => s) (stay_of e) h
theorem Reps.length {S : Addr → Prop} {H : Hp} : ∀ {ds : List D} {vs : List V}, Reps S H ds vs → vs.length = ds.length
  | [], _, h => by cases h; rfl
  | d :: ds, _, h => by
    obtain ⟨v, r, rfl, _, h2⟩ := h
    rw [List.length_cons, List.length_cons, Reps.length h2]
theorem Reps.get {S : Addr → Prop} {H : Hp} : ∀ {ds : List D} {vs : List V} {i : Nat} {v : V}, Reps S H ds vs → vs[i]? = some v → ∃ d, ds[i]? = some d ∧ Rep S H d v
  | [], _, i, v, h, e => by cases h; simp at e
  | d :: ds, _, 0, v, h, e => by
    obtain ⟨u, r, rfl, h1, _⟩ := h
    cases (show some u = some v from e)
    exact ⟨d, rfl, h1⟩
  | d :: ds, _, i + 1, v, h, e => by
    obtain ⟨u, r, rfl, _, h2⟩ := h
    obtain ⟨x, h3, h4⟩ := Reps.get (i := i) h2 (show r[i]? = some v from e)
    exact ⟨x, h3, h4⟩
theorem Reps.append {S : Addr → Prop} {H : Hp} : ∀ {ds es : List D} {vs us : List V}, Reps S H ds vs → Reps S H es us → Reps S H (ds ++ es) (vs ++ us)
  | [], _, _, _, h, k => by cases h; exact k
  | d :: ds, _, _, _, h, k => by
    obtain ⟨v, r, rfl, h1, h2⟩ := h
    exact ⟨v, r ++ _, rfl, h1, Reps.append h2 k⟩
theorem Reps.one {S : Addr → Prop} {H : Hp} {d : D} {v : V} (h : Rep S H d v) : Reps S H [d] [v] := ⟨v, [], rfl, h, rfl⟩
theorem Same.new {H : Hp} {p : Addr} {o : HO} (h : H p = none) : Same H (upd H p o) := fun a u e => by
  rw [upd_ne (ne_of_none e h)]
  exact e
/-- the class of a datum -/
def D.ty : D → String
  | .non => "NoneType" | .bl _ => "bool" | .int _ => "int" | .str _ => "str" | .lst _ => "list" | .tup _ => "tuple" | .dic => "dict"
theorem Rep.ty {S : Addr → Prop} {K : PySem.W.Frag} {H : Hp} {d : D} {v : V} (h : Rep S H d v) : TyX K H v (.type d.ty) := by
  cases d with
  | non => cases h; exact .base .non
  | bl b => cases h; exact .base (.bl b)
  | int i => cases h; exact .base (.int i)
  | str s => cases h; exact .base (.str s)
  | lst xs => obtain ⟨a, vs, rfl, _, h, _⟩ := h; exact .base (.lst h)
  | tup xs => obtain ⟨a, vs, rfl, h, _⟩ := h; exact .base (.tup h)
  | dic => obtain ⟨a, rfl, h⟩ := h; exact .base (.dK h)
/-- a list or a tuple: its items -/
def D.items? : D → Option (List D)
  | .lst xs => some xs | .tup xs => some xs | _ => none
def D.isList (d : D) : Bool := d.items?.isSome
theorem Rep.seq {S : Addr → Prop} {K : PySem.W.Frag} {H : Hp} {d : D} {v : V} {xs : List D} (h : Rep S H d v) (e : d.items? = some xs) : ∃ a vs, v = .ref a ∧ (SqL K H a vs ∨ SqT K H a vs) ∧ Reps S H xs vs := by
  cases d with
  | lst ys =>
    cases (show some ys = some xs from e)
    obtain ⟨a, vs, rfl, _, h, r⟩ := h
    exact ⟨a, vs, rfl, .inl (SqL.of h), r⟩
  | tup ys =>
    cases (show some ys = some xs from e)
    obtain ⟨a, vs, rfl, h, r⟩ := h
    exact ⟨a, vs, rfl, .inr (SqT.of h), r⟩
  | _ => cases e
theorem kit2 {K : PySem.W.Frag} {a b c : String} (x y : Bool) (h : kitB a b = some x) (h2 : kitB a c = some y) : PySem.W.kitAny K (.type a) [.type b, .type c] = some (x || y) :=
  kitAny_cons (kit_ty h) (fun e => kitAny_cons (kit_ty h2) (fun e2 => by rw [e, e2]; exact kitAny_nil) (fun e2 => by rw [e2]; exact Bool.or_true _)) (fun e => by rw [e]; rfl)
theorem kit_list {K : PySem.W.Frag} (d : D) : PySem.W.kitAny K (.type d.ty) [.type "list", .type "tuple"] = some d.isList := by
  cases d with
  | non => exact kit2 (a := "NoneType") false false (by decide +kernel) (by decide +kernel)
  | bl _ => exact kit2 (a := "bool") false false (by decide +kernel) (by decide +kernel)
  | int _ => exact kit2 (a := "int") false false (by decide +kernel) (by decide +kernel)
  | str _ => exact kit2 (a := "str") false false (by decide +kernel) (by decide +kernel)
  | lst _ => exact kit2 (a := "list") true false (by decide +kernel) (by decide +kernel)
  | tup _ => exact kit2 (a := "tuple") false true (by decide +kernel) (by decide +kernel)
  | dic => exact kit2 (a := "dict") false false (by decide +kernel) (by decide +kernel)
def D.isInt : D → Bool
  | .int _ => true | .bl _ => true | _ => false
def D.isBool : D → Bool
  | .bl _ => true | _ => false
def D.isStr : D → Bool
  | .str _ => true | _ => false
def D.isLst : D → Bool
  | .lst _ => true | _ => false
def D.isTup : D → Bool
  | .tup _ => true | _ => false
def D.isDic : D → Bool
  | .dic => true | _ => false
theorem kit_int {K : PySem.W.Frag} (d : D) : PySem.W.kitOne K (.type d.ty) (.type "int") = some d.isInt := by
  cases d with
  | non => exact kit_ty (a := "NoneType") (r := false) (by decide +kernel)
  | bl _ => exact kit_ty (a := "bool") (r := true) (by decide +kernel)
  | int _ => exact kit_ty (a := "int") (r := true) (by decide +kernel)
  | str _ => exact kit_ty (a := "str") (r := false) (by decide +kernel)
  | lst _ => exact kit_ty (a := "list") (r := false) (by decide +kernel)
  | tup _ => exact kit_ty (a := "tuple") (r := false) (by decide +kernel)
  | dic => exact kit_ty (a := "dict") (r := false) (by decide +kernel)
theorem kit_bool {K : PySem.W.Frag} (d : D) : PySem.W.kitOne K (.type d.ty) (.type "bool") = some d.isBool := by
  cases d with
  | non => exact kit_ty (a := "NoneType") (r := false) (by decide +kernel)
  | bl _ => exact kit_ty (a := "bool") (r := true) (by decide +kernel)
  | int _ => exact kit_ty (a := "int") (r := false) (by decide +kernel)
  | str _ => exact kit_ty (a := "str") (r := false) (by decide +kernel)
  | lst _ => exact kit_ty (a := "list") (r := false) (by decide +kernel)
  | tup _ => exact kit_ty (a := "tuple") (r := false) (by decide +kernel)
  | dic => exact kit_ty (a := "dict") (r := false) (by decide +kernel)
theorem kit_str {K : PySem.W.Frag} (d : D) : PySem.W.kitOne K (.type d.ty) (.type "str") = some d.isStr := by
  cases d with
  | non => exact kit_ty (a := "NoneType") (r := false) (by decide +kernel)
  | bl _ => exact kit_ty (a := "bool") (r := false) (by decide +kernel)
  | int _ => exact kit_ty (a := "int") (r := false) (by decide +kernel)
  | str _ => exact kit_ty (a := "str") (r := true) (by decide +kernel)
  | lst _ => exact kit_ty (a := "list") (r := false) (by decide +kernel)
  | tup _ => exact kit_ty (a := "tuple") (r := false) (by decide +kernel)
  | dic => exact kit_ty (a := "dict") (r := false) (by decide +kernel)
theorem kit_lst {K : PySem.W.Frag} (d : D) : PySem.W.kitOne K (.type d.ty) (.type "list") = some d.isLst := by
  cases d with
  | non => exact kit_ty (a := "NoneType") (r := false) (by decide +kernel)
  | bl _ => exact kit_ty (a := "bool") (r := false) (by decide +kernel)
  | int _ => exact kit_ty (a := "int") (r := false) (by decide +kernel)
  | str _ => exact kit_ty (a := "str") (r := false) (by decide +kernel)
  | lst _ => exact kit_ty (a := "list") (r := true) (by decide +kernel)
  | tup _ => exact kit_ty (a := "tuple") (r := false) (by decide +kernel)
  | dic => exact kit_ty (a := "dict") (r := false) (by decide +kernel)
theorem kit_tup {K : PySem.W.Frag} (d : D) : PySem.W.kitOne K (.type d.ty) (.type "tuple") = some d.isTup := by
  cases d with
  | non => exact kit_ty (a := "NoneType") (r := false) (by decide +kernel)
  | bl _ => exact kit_ty (a := "bool") (r := false) (by decide +kernel)
  | int _ => exact kit_ty (a := "int") (r := false) (by decide +kernel)
  | str _ => exact kit_ty (a := "str") (r := false) (by decide +kernel)
  | lst _ => exact kit_ty (a := "list") (r := false) (by decide +kernel)
  | tup _ => exact kit_ty (a := "tuple") (r := true) (by decide +kernel)
  | dic => exact kit_ty (a := "dict") (r := false) (by decide +kernel)
theorem kit_dic {K : PySem.W.Frag} (d : D) : PySem.W.kitOne K (.type d.ty) (.type "dict") = some d.isDic := by
  cases d with
  | non => exact kit_ty (a := "NoneType") (r := false) (by decide +kernel)
  | bl _ => exact kit_ty (a := "bool") (r := false) (by decide +kernel)
  | int _ => exact kit_ty (a := "int") (r := false) (by decide +kernel)
  | str _ => exact kit_ty (a := "str") (r := false) (by decide +kernel)
  | lst _ => exact kit_ty (a := "list") (r := false) (by decide +kernel)
  | tup _ => exact kit_ty (a := "tuple") (r := false) (by decide +kernel)
  | dic => exact kit_ty (a := "dict") (r := true) (by decide +kernel)
section
variable {P : Program} {w : World} {K : PySem.W.Frag} {mg : Str → Option Value} {base : Heap} {S : Addr → Prop}
/-! ### is_list -/
abbrev sIsList : Stmt := top 9
theorem scIsList : FnScope ["thing"] ["thing"] (defScope sIsList) := ⟨rfl, rfl, rfl, by decide +kernel, rfl, by decide +kernel, by decide +kernel⟩
def spIsList : Sp := fun vs H Q _ => ∃ (S : Addr → Prop) (d : D) (v : V), vs = [v] ∧ Rep S H d v ∧ ∀ H', Same H H' → Q (.bl d.isList) H'
theorem ok_isList (B : Bt mg) (N : Dn K mg "is_list" sIsList ["thing"]) : FnOk P w K mg base CX0 1 N.f N.fd ["thing"] spIsList := by
  refine N.F.ok scIsList (fun vs H Q E h => ?_) (fun cdv A outer s H vs Q E hr h => ?_)
  · obtain ⟨S, d, v, rfl, _⟩ := h
    rfl
  · obtain ⟨S, d, v, rfl, hd, k⟩ := h
    refine ⟨_, pss_one (ps_ret (pe_callB call_isiT (by rfl) B.isi PyProof.Rows.boot_isinstance (pa_cons (pv 0) (pa_cons (pe_tup (pa_cons (pe_bltn (v := .ty "list") rfl B.lst PyProof.Rows.boot_list rfl) (pa_cons (pe_bltn (v := .ty "tuple") rfl B.tup PyProof.Rows.boot_tuple rfl) pa_nil))) pa_nil)))), ?_⟩
    refine ⟨_, rfl, ?_⟩
    refine ⟨by show 2 ≤ sizeLine; decide, fun p hp => ?_⟩
    exact ⟨_, p, _, _, [.type "list", .type "tuple"], _, rfl, upd_same, .cons (.ty "list") (.cons (.ty "tuple") .nil), (hd.same (Same.new hp)).ty, kit_list d, k _ (Same.new hp)⟩
/-! ### is_tuple_of -/
abbrev sIsTupleOf : Stmt := top 10
theorem scIsTupleOf : FnScope ["thing", "length"] ["thing", "length"] (defScope sIsTupleOf) := ⟨rfl, rfl, rfl, by decide +kernel, rfl, by decide +kernel, by decide +kernel⟩
def D.isOf (d : D) (n : Nat) : Bool := match d.items? with
  | some xs => xs.length == n
  | none => false
def spIsTupleOf : Sp := fun vs H Q _ => ∃ (S : Addr → Prop) (d : D) (v : V) (n : Nat), vs = [v, .int n] ∧ Rep S H d v ∧ ∀ H', Same H H' → Q (.bl (d.isOf n)) H'
theorem ok_isTupleOf (B : Bt mg) (N : Dn K mg "is_tuple_of" sIsTupleOf ["thing", "length"]) (NL : Dn K mg "is_list" sIsList ["thing"]) : FnOk P w K mg base CX0 2 N.f N.fd ["thing", "length"] spIsTupleOf := by
  have G : FnOk P w K mg base CX0 1 NL.f NL.fd ["thing"] spIsList := ok_isList B NL
  refine N.F.ok scIsTupleOf (fun vs H Q E h => ?_) (fun cdv A outer s H vs Q E hr h => ?_)
  · obtain ⟨S, d, v, n, rfl, _⟩ := h
    rfl
  · obtain ⟨S, d, v, n, rfl, hd, k⟩ := h
    refine ⟨_, pss_one (ps_ret (pe_and (pe_call G hr rfl NL.g NL.F.kp NL.b .nil pass0 (pa_cons (pv 0) pa_nil))
      (pe_one (pe_cmpR op_eq (pe_callB call_len_seq (by rfl) B.len PySem.boot_len (pa_cons (pv 0) pa_nil)) (pv 1) (nomark _))))), ?_⟩
    refine ⟨_, rfl, S, d, v, rfl, hd, fun H' hs => ⟨_, rfl, ?_⟩⟩
    cases e : d.items? with
    | none =>
      have e1 : d.isList = false := by unfold D.isList; rw [e]; rfl
      have e2 : d.isOf n = false := by unfold D.isOf; rw [e]
      rw [e1]
      refine iteF ?_
      rw [← e2]
      exact k _ hs
    | some xs =>
      have e1 : d.isList = true := by unfold D.isList; rw [e]; rfl
      have e2 : d.isOf n = (xs.length == n) := by unfold D.isOf; rw [e]
      rw [e1]
      refine iteT ?_
      obtain ⟨a, us, rfl, hq, r⟩ := (hd.same hs).seq (K := K) e
      refine ⟨_, rfl, a, us, rfl, hq, _, rfl, rfl, ?_⟩
      have e3 : decide (V.int (us.length : Int) = V.int n) = (xs.length == n) := by
        rw [r.length]
        by_cases z : xs.length = n
        · rw [z]; simp
        · have z2 : ¬ V.int (xs.length : Int) = V.int n := fun q => z (by injection q with q; omega)
          rw [decide_eq_false z2]
          exact (beq_eq_false_iff_ne.mpr z).symm
      rw [e3, ← e2]
      exact k _ hs
/-! ### is_integer -/
abbrev sIsInteger : Stmt := top 11
theorem scIsInteger : FnScope ["thing"] ["thing"] (defScope sIsInteger) := ⟨rfl, rfl, rfl, by decide +kernel, rfl, by decide +kernel, by decide +kernel⟩
def D.isInteger : D → Bool
  | .int _ => true | _ => false
def spIsInteger : Sp := fun vs H Q _ => ∃ (S : Addr → Prop) (d : D) (v : V), vs = [v] ∧ Rep S H d v ∧ Q (.bl d.isInteger) H
theorem ok_isInteger (B : Bt mg) (N : Dn K mg "is_integer" sIsInteger ["thing"]) : FnOk P w K mg base CX0 1 N.f N.fd ["thing"] spIsInteger := by
  refine N.F.ok scIsInteger (fun vs H Q E h => ?_) (fun cdv A outer s H vs Q E hr h => ?_)
  · obtain ⟨S, d, v, rfl, _⟩ := h
    rfl
  · obtain ⟨S, d, v, rfl, hd, k⟩ := h
    refine ⟨_, pss_one (ps_ret (pe_and (pe_callB call_isi (by rfl) B.isi PyProof.Rows.boot_isinstance (pa_cons (pv 0) (pa_cons (pe_bltn (v := .ty "int") rfl B.int PyProof.Rows.boot_int rfl) pa_nil)))
      (pe_one (pe_not (pe_callB call_isi (by rfl) B.isi PyProof.Rows.boot_isinstance (pa_cons (pv 0) (pa_cons (pe_bltn (v := .ty "bool") rfl B.bool PyProof.Rows.boot_bool rfl) pa_nil))))))), ?_⟩
    refine ⟨_, rfl, v, .ty "int", _, _, _, rfl, .ty "int", hd.ty, kit_int d, _, rfl, ?_⟩
    cases e : d.isInt with
    | false =>
      refine iteF ?_
      have : d.isInteger = false := by cases d <;> first | rfl | cases e
      rw [← this]; exact k
    | true =>
      refine iteT ⟨_, rfl, v, .ty "bool", _, _, _, rfl, .ty "bool", hd.ty, kit_bool d, _, rfl, ?_⟩
      have : (!d.isBool) = d.isInteger := by cases d <;> first | rfl | cases e
      rw [this]; exact k
end
end Q1

set_option Elab.async false
set_option maxRecDepth 100000
set_option maxHeartbeats 2000000
namespace Q1
open PySem L2
/-! ### a list or a tuple walked -/
section
variable {X : Cx} {tg : Expr}
def SqA (K : PySem.W.Frag) (H : Hp) (a : Addr) (xs : List V) : Prop := SqL K H a xs ∨ SqT K H a xs
def iSeq (K : PySem.W.Frag) (tl : TE) : TI := fun σ H R => tl σ H fun x H1 => ∃ a, x = .ref a ∧ (((∃ xs, SqL K H1 a xs) ∧ R (Itl K a) H1) ∨ ((∃ xs, SqT K H1 a xs) ∧ R (Itt K a) H1))
theorem pi_seq {l : Expr} {tl : TE} (hl : PE X l tl) : PI X tg l (iSeq X.K tl) := by
  refine ⟨fun pins s σ H R I h => ?_⟩
  refine thn (hl.run pins s σ H _ I h) fun v s1 ⟨x, H1, I1, r1, q1⟩ => ?_
  obtain ⟨a, e, ⟨⟨xs, hq⟩, q⟩ | ⟨⟨xs, hq⟩, q⟩⟩ := q1
  · subst e
    cases r1
    obtain ⟨its, rv, p, hz⟩ := I1.list hq
    refine wpAny_pyIter_list p.isList ?_
    refine ⟨s1.heap.objs.size, [s1.heap.objs.size], _, _, H1, rfl, I1.kept (t' := s1.toks) fun b o e => Heap.get?_push_of_some _ e, turn_list a _, ⟨_, Heap.get?_push_size _ rfl, rfl, rfl⟩, fun b hb => ?_, q⟩
    have e : b = s1.heap.objs.size := by simpa using hb
    subst e
    exact I1.fpOk (Nat.le_refl _) (I1.hok.fresh (Nat.le_refl _))
  · subst e
    cases r1
    obtain ⟨its, rv, p, hz⟩ := I1.tuple hq
    refine wpAny_pyIter_tuple (show s1.heap.IsTuple a its.toArray from p) ?_
    refine ⟨s1.heap.objs.size, [s1.heap.objs.size], _, _, H1, rfl, I1.kept (t' := s1.toks) fun b o e => Heap.get?_push_of_some _ e, turn_tuple a _, ⟨_, Heap.get?_push_size _ rfl, rfl, rfl⟩, fun b hb => ?_, q⟩
    have e : b = s1.heap.objs.size := by simpa using hb
    subst e
    exact I1.fpOk (Nat.le_refl _) (I1.hok.fresh (Nat.le_refl _))
end
section
variable {X : Cx}
theorem gv {x : Str} {v : V} {u : Value} {pos : Pos} (hm : X.mg x = some u) (r : RelV v u) (hg : Gl X x := by rfl) (hd : (x == ("__debug__" : Str)) = false := by decide) : PE X (.Name x pos) (tC v) := pe_glob hg hm r hd
theorem gt {x : Str} {n : String} {pos : Pos} (hm : X.mg x = none) (hv : bootBuiltins x = some (.type n)) (hg : Gl X x := by rfl) (hn : x ≠ "__name__" := by decide) (hd : (x == ("__debug__" : Str)) = false := by decide) : PE X (.Name x pos) (tC (.ty n)) := pe_bltn hg hm hv rfl hn hd
end
theorem Same.at {H H1 : Hp} {D : Addr} {o : HO} (h : Same H H1) (hD : H D = none) : Same H (upd H1 D o) := fun a u e => by
  rw [upd_ne (ne_of_none e hD)]
  exact h a u e
/-! ### is_name -/
section
variable {P : Program} {w : World} {K : PySem.W.Frag} {mg : Str → Option Value} {base : Heap} {S : Addr → Prop}
def sLETTERS : Str := "abcdefghijklmnopqrstuvwxyz"
def sFIGURES : Str := "0123456789"
structure Cs (mg : Str → Option Value) : Prop where
  letters : ∃ t, mg "LETTERS" = some (.str sLETTERS t)
  figures : ∃ t, mg "FIGURES" = some (.str sFIGURES t)
  longest : ∃ t, mg "LONGEST_NAME" = some (.int 8 t)
abbrev sIsName : Stmt := top 12
theorem scIsName : FnScope ["thing", "sign"] ["thing"] (defScope sIsName) := ⟨rfl, rfl, rfl, by decide +kernel, rfl, by decide +kernel, by decide +kernel⟩
def isLetter (c : Nat) : Bool := decide (c ∈ sLETTERS.cps.toList)
def isFigure (c : Nat) : Bool := decide (c ∈ sFIGURES.cps.toList)
def isNameS (s : Str) : Bool := decide (1 ≤ s.length) && (decide (s.length ≤ 8) && (s.cps.toList.head?.any isLetter && s.cps.toList.all fun d => isLetter d || isFigure d))
def D.isName : D → Bool
  | .str s => isNameS s
  | _ => false
def D.short : D → Prop
  | .str s => s.length ≤ sizeLine
  | _ => True
def spIsName : Sp := fun vs H Q _ => ∃ (S : Addr → Prop) (d : D) (v : V), vs = [v] ∧ Rep S H d v ∧ d.short ∧ ∀ H', Same H H' → Q (.bl d.isName) H'
theorem ok_isName (B : Bt mg) (C : Cs mg) (N : Dn K mg "is_name" sIsName ["thing"]) : FnOk P w K mg base CX0 1 N.f N.fd ["thing"] spIsName := by
  refine N.F.ok scIsName (fun vs H Q E h => ?_) (fun cdv A outer s H vs Q E hr h => ?_)
  · obtain ⟨S, d, v, rfl, _⟩ := h
    rfl
  · obtain ⟨S, d, v, rfl, hd, sh, k⟩ := h
    obtain ⟨tL, hL⟩ := C.letters
    obtain ⟨tF, hF⟩ := C.figures
    obtain ⟨tN, hN⟩ := C.longest
    refine ⟨_, pss_cons (ps_if (pw_or (pt_not (pt_val (pe_callB call_isi (by rfl) B.isi PyProof.Rows.boot_isinstance (pa_cons (pv 0) (pa_cons (gt B.str PyProof.Rows.boot_str) pa_nil))) (fun _ => rfl)))
          (pw_or1 (pt_not (pt_chain op_le op_le pe_int (pe_callB call_len_str (by rfl) B.len PySem.boot_len (pa_cons (pv 0) pa_nil)) (gv (v := .int 8) hN ⟨_, rfl⟩))))).pt
        (pss_one (ps_ret pe_bl)) pss_nil)
      (pss_cons (ps_if (pt_cmpR op_notIn_sign (pe_item_str (pv 0) pe_int (fun _ _ => rfl)) (gv (v := .str sLETTERS) hL ⟨_, rfl⟩) (by rfl)) (pss_one (ps_ret pe_bl)) pss_nil)
      (pss_one (ps_ret (pe_callB (cr_all (by rfl)) (by rfl) B.all PyProof.Rows.boot_all (pa_cons (pe_lc (own := [("sign", 1)]) (g := gName 1) (tt := tYes) rfl scIsName.nd (pi_str (pv 0)) (blkOk_by (own := [("sign", 1)]) (N := ["thing", "sign"]) (sc := defScope sIsName) (by decide +kernel)) (fun _ _ _ _ _ => pg_name (i := 1) scIsName.nd rfl (Or.inl rfl)) (fun _ _ _ _ _ => pts_nil)
          (fun _ _ _ _ _ => pe_or (pe_cmpR op_in_sign (pv 1) (gv (v := .str sLETTERS) hL ⟨_, rfl⟩) (by rfl)) (pe_one (pe_cmpR op_in_sign (pv 1) (gv (v := .str sFIGURES) hF ⟨_, rfl⟩) (by rfl))))) pa_nil))))), ?_⟩
    refine ⟨_, rfl, v, .ty "str", _, _, _, rfl, .ty "str", hd.ty, kit_str d, _, rfl, ?_⟩
    cases hs : d.isStr with
    | false =>
      refine iteT (iteT ?_)
      have e : d.isName = false := by cases d <;> first | rfl | cases hs
      show Q (.bl false) _
      rw [← e]
      exact k _ (Same.refl H)
    | true =>
      obtain ⟨z, rfl⟩ : ∃ z, d = .str z := by cases d <;> first | exact ⟨_, rfl⟩ | cases hs
      cases (show v = .str z from hd)
      refine iteF ?_
      refine ⟨_, rfl, z, rfl, sh, _, _, rfl, rfl, _, rfl, ?_⟩
      refine ite2 (fun h1 => ?_) (fun h1 => ?_)
      · have l1 : 1 ≤ z.length := by have := of_decide_eq_true h1; omega
        refine ⟨_, _, rfl, rfl, _, rfl, ?_⟩
        refine ite2 (fun h2 => ?_) (fun h2 => ?_)
        · have l2 : ¬ z.length ≤ 8 := fun q => by
            have e : decide ((z.length : Int) ≤ 8) = true := decide_eq_true (by omega)
            rw [e] at h2
            cases h2
          show Q (.bl false) _
          have e : (D.str z).isName = false := by
            show isNameS z = false
            unfold isNameS
            rw [decide_eq_false l2, Bool.false_and, Bool.and_false]
          rw [← e]
          exact k _ (Same.refl H)
        · have l2 : z.length ≤ 8 := by
            by_cases q : (z.length : Int) ≤ 8
            · omega
            · rw [decide_eq_false q] at h2
              exact absurd rfl h2
          have l3 : 0 < z.cps.size := l1
          refine ⟨_, rfl, z, 0, z.cps[0], rfl, rfl, Int.le_refl 0, by decide, by omega, by simp [l3], _, _, rfl, rfl, _, rfl, ?_⟩
          have hh : z.cps.toList.head? = some z.cps[0] := by
            rw [List.head?_eq_getElem?, Array.getElem?_toList]
            simp [l3]
          have e0 : isNameS z = (isLetter z.cps[0] && z.cps.toList.all fun d => isLetter d || isFigure d) := by
            unfold isNameS
            rw [decide_eq_true l1, decide_eq_true l2, hh]
            rfl
          have e1 : (D.str z).isName = (isLetter z.cps[0] && z.cps.toList.all fun d => isLetter d || isFigure d) := e0
          refine ite2 (fun h3 => ?_) (fun h3 => ?_)
          · show Q (.bl false) _
            have e2 : isLetter z.cps[0] = false := by
              unfold isLetter
              cases q : decide (z.cps[0] ∈ sLETTERS.cps.toList) with
              | false => rfl
              | true => rw [q] at h3; cases h3
            have e : (D.str z).isName = false := by rw [e1, e2, Bool.false_and]
            rw [← e]
            exact k _ (Same.refl H)
          · have e2 : isLetter z.cps[0] = true := by
              unfold isLetter
              cases q : decide (z.cps[0] ∈ sLETTERS.cps.toList) with
              | true => rfl
              | false => rw [q] at h3; exact absurd rfl h3
            refine ⟨_, rfl, z, rfl, fun D0 hD => ?_⟩
            refine lc_it walk_str (fun i H' => Same H H' ∧ H' D0 = some (.lst (((z.cps.toList.take i).map fun d => isLetter d || isFigure d).map V.bl))) ⟨Same.new hD, upd_same⟩ (fun _ _ _ _ => True.intro) ?_ ?_
            · rintro i x H' H2 hi ⟨hs', hl⟩ ⟨rfl, c, hc, rfl⟩
              have hic : z.cps.toList[i]? = some c := by rw [Array.getElem?_toList]; exact hc
              have step : ∀ b, b = (isLetter c || isFigure c) → ((z.cps.toList.take i).map fun d => isLetter d || isFigure d).map V.bl ++ [V.bl b] = ((z.cps.toList.take (i + 1)).map fun d => isLetter d || isFigure d).map V.bl := fun b e => by
                rw [List.take_add_one, hic, e]
                simp
              have fin : ∀ b, b = (isLetter c || isFigure c) → ∃ acc, H2 D0 = some (.lst acc) ∧ acc.length < sizeLine ∧ Same H (upd H2 D0 (.lst (acc ++ [V.bl b]))) ∧ upd H2 D0 (.lst (acc ++ [V.bl b])) D0 = some (.lst (((z.cps.toList.take (i + 1)).map fun d => isLetter d || isFigure d).map V.bl)) := fun b e => by
                refine ⟨_, hl, ?_, Same.at hs' hD, ?_⟩
                · rw [List.length_map, List.length_map, List.length_take]
                  have : z.cps.toList.length = z.length := Array.length_toList
                  exact Nat.lt_of_le_of_lt (Nat.min_le_left _ _) (Nat.lt_of_lt_of_le hi sh)
                · rw [upd_same, step b e]
              refine ⟨rfl, ?_⟩
              refine ⟨_, rfl, c, sLETTERS, rfl, rfl, _, rfl, ?_⟩
              refine ite2 (fun h4 => ?_) (fun h4 => ?_)
              · exact fin true (by unfold isLetter; rw [h4]; rfl)
              · refine ⟨_, rfl, c, sFIGURES, rfl, rfl, ?_⟩
                refine fin _ ?_
                have : isLetter c = false := by
                  unfold isLetter
                  exact Bool.eq_false_iff.mpr h4
                rw [this, Bool.false_or]
                rfl
            · rintro H' ⟨hs', hl⟩
              refine ⟨D0, (z.cps.toList).map (fun d => isLetter d || isFigure d), rfl, SqL.of ?_, ?_⟩
              · rw [hl]
                have : z.cps.toList.take z.cps.size = z.cps.toList := List.take_of_length_le (by rw [Array.length_toList]; exact Nat.le_refl _)
                rw [this]
              · have e3 : (z.cps.toList.map fun d => isLetter d || isFigure d).all id = (D.str z).isName := by
                  rw [e1, e2, Bool.true_and, List.all_map]
                  rfl
                rw [e3]
                exact k _ hs'
      · refine ⟨false, rfl, ?_⟩
        show Q (.bl false) _
        have e : (D.str z).isName = false := by
          show isNameS z = false
          unfold isNameS
          have : ¬ 1 ≤ z.length := fun q => h1 (decide_eq_true (by omega))
          rw [decide_eq_false this, Bool.false_and]
        rw [← e]
        exact k _ (Same.refl H)
end
end Q1

set_option Elab.async false
set_option maxRecDepth 100000
set_option maxHeartbeats 2000000
namespace Q1
open PySem L2
/-! ### folds that may stop -/
def optFold {α β : Type} (f : β → α → Option β) : List α → β → Option β
  | [], b => some b
  | a :: as, b => match f b a with
    | none => none
    | some c => optFold f as c
theorem optFold_append {α β : Type} (f : β → α → Option β) : ∀ (xs ys : List α) (b : β), optFold f (xs ++ ys) b = match optFold f xs b with
    | none => none
    | some c => optFold f ys c
  | [], ys, b => rfl
  | x :: xs, ys, b => by
    show (match f b x with | none => none | some c => optFold f (xs ++ ys) c) = _
    cases e : f b x with
    | none => simp [optFold, e]
    | some c => simp [optFold, e, optFold_append f xs ys c]
theorem optFold_step {α β : Type} {f : β → α → Option β} {xs : List α} {i : Nat} {b c : β} {a : α} (h : optFold f (xs.take i) b = some c) (ha : xs[i]? = some a) : optFold f (xs.take (i + 1)) b = f c a := by
  rw [List.take_add_one, ha, optFold_append, h]
  show (match f c a with | none => none | some d => some d) = f c a
  cases f c a <;> rfl
theorem optFold_none {α β : Type} {f : β → α → Option β} {xs : List α} {i : Nat} {b c : β} {a : α} (h : optFold f (xs.take i) b = some c) (ha : xs[i]? = some a) (hn : f c a = none) : optFold f xs b = none := by
  have e := optFold_step h ha
  rw [hn] at e
  have e2 := optFold_append f (xs.take (i + 1)) (xs.drop (i + 1)) b
  rw [List.take_append_drop, e] at e2
  exact e2
theorem seqT {K : PySem.W.Frag} {H H' : Hp} {a : Addr} {xs : List V} (e : Same H H') (h : SqT K H a xs) : SqT K H' a xs := by
  rcases h with (h | ⟨o, h⟩) | h
  · exact .inl (.inl (e _ _ h))
  · exact .inl (.inr ⟨o, e _ _ h⟩)
  · exact .inr h
/-! ### unpacking a list or a tuple -/
section
variable {X : Cx} {pos : Pos}
def gSeq (K : PySem.W.Frag) (n : Nat) (t : TGs) : TG := fun v σ H Q => ∃ a xs, v = .ref a ∧ (SqL K H a xs ∨ SqT K H a xs) ∧ xs.length = n ∧ t xs σ H Q
theorem pg_seq {es : List Expr} {k : Nat} {t : TGs} {n : Nat} (hc : X.calm = true) (h : PGs X es t)
    (hn : (assignEach es X.env).length = n := by rfl) (hst : (assignEach es X.env).findIdx? (·.1) = none := by rfl) : PG X (.Tuple es k pos) (gSeq X.K n t) := by
  refine ⟨fun pins s σ H v u Q I r hw => ?_⟩
  obtain ⟨a, xs, e1, hq, hl, hw⟩ := hw
  rcases hq with hq | hq
  · exact (pg_unl hc h hn hst).run pins s σ H v u Q I r ⟨a, xs, e1, hq, hl, hw⟩
  · exact (pg_tup hc h hn hst).run pins s σ H v u Q I r ⟨a, xs, e1, hq, hl, hw⟩
/-- a walk over a list or a tuple that stands in what stays -/
theorem for_seq {K : PySem.W.Frag} {a : Addr} {xs : List V} {g : TG} {tb : TS} {D : Ends} {σ : L2.St} {H Hb : Hp} (hq : SqL K Hb a xs ∨ SqT K Hb a xs) (Pv : Nat → L2.St → Hp → Prop) (h0 : Pv 0 σ H) (hS : ∀ i σ H', i ≤ xs.length → Pv i σ H' → Same Hb H')
    (hs : ∀ i x σ H', xs[i]? = some x → Pv i σ H' → g x σ H' fun σ2 H2 => tb { D with nx := Pv (i + 1), ct := Pv (i + 1), bk := D.nx } σ2 H2) (hd : ∀ σ H', Pv xs.length σ H' → D.nx σ H') :
    (((∃ xs, SqL K H a xs) ∧ (fun J H => ∃ W : Nat → Nat → L2.St → Hp → Prop, (∃ m, W 0 m σ H) ∧ ∀ i m σ H, W i m σ H → (It.stop J i H ∧ D.nx σ H) ∨ (It.go J i H ∧ ∃ N : L2.St → Hp → Prop, (∀ σ' H', N σ' H' → ∃ m', m' < m ∧ W (i + 1) m' σ' H') ∧ ∀ x H', It.yld J i H x H' → g x σ H' fun σ2 H2 => tb { D with nx := N, ct := N, bk := D.nx } σ2 H2)) (Itl K a) H) ∨
    ((∃ xs, SqT K H a xs) ∧ (fun J H => ∃ W : Nat → Nat → L2.St → Hp → Prop, (∃ m, W 0 m σ H) ∧ ∀ i m σ H, W i m σ H → (It.stop J i H ∧ D.nx σ H) ∨ (It.go J i H ∧ ∃ N : L2.St → Hp → Prop, (∀ σ' H', N σ' H' → ∃ m', m' < m ∧ W (i + 1) m' σ' H') ∧ ∀ x H', It.yld J i H x H' → g x σ H' fun σ2 H2 => tb { D with nx := N, ct := N, bk := D.nx } σ2 H2)) (Itt K a) H)) := by
  have b0 := hS 0 σ H (Nat.zero_le _) h0
  rcases hq with hq | hq
  · refine .inl ⟨⟨xs, b0.seq hq⟩, for_it walk_list Pv h0 (fun i σ' H' hi p => (hS i σ' H' hi p).seq hq) (fun i x σ' H' H2 hi p y => ?_) hd⟩
    obtain ⟨rfl, hx⟩ := y
    exact hs i x σ' _ hx p
  · refine .inr ⟨⟨xs, seqT b0 hq⟩, for_it walk_tup Pv h0 (fun i σ' H' hi p => seqT (hS i σ' H' hi p) hq) (fun i x σ' H' H2 hi p y => ?_) hd⟩
    obtain ⟨rfl, hx⟩ := y
    exact hs i x σ' _ hx p
end
/-! ### literal_list -/
section
variable {P : Program} {w : World} {K : PySem.W.Frag} {mg : Str → Option Value} {base : Heap}
abbrev sLits : Stmt := top 14
abbrev nLits : List Str := ["places", "thing", "found", "seen", "one", "mark", "truth"]
theorem scLits : FnScope nLits ["places", "thing"] (defScope sLits) := ⟨rfl, rfl, rfl, by decide +kernel, rfl, by decide +kernel, by decide +kernel⟩
def lit2 (names : List Str) : D → D → Option (Str × Bool)
  | .str m, .bl t => if m ∈ names then some (m, t) else none
  | _, _ => none
def lit1 (names : List Str) (d : D) : Option (Str × Bool) := match d.items? with
  | some [a, b] => lit2 names a b
  | _ => none
theorem lit2_out {names : List Str} {m : Str} (h : ¬ m ∈ names) (q : D) : lit2 names (.str m) q = none := by
  cases q <;> first | rfl | exact if_neg h
def litS (names : List Str) (acc : List (Str × Bool)) (d : D) : Option (List (Str × Bool)) := match lit1 names d with
  | none => none
  | some l => if l.1 ∈ acc.map Prod.fst then none else some (acc ++ [l])
def litsOf (names : List Str) (d : D) : Option (List (Str × Bool)) := match d.items? with
  | none => none
  | some ds => optFold (litS names) ds []
def litD (l : Str × Bool) : D := .tup [.str l.1, .bl l.2]
def litsD (ls : List (Str × Bool)) : D := .lst (ls.map litD)
/-- the dict from names to their places -/
def placesF : Nat → List Str → List (Key × V)
  | _, [] => []
  | n, m :: ms => (Sum.inr m, V.int (n : Nat)) :: placesF (n + 1) ms
def placesK (names : List Str) : List (Key × V) := placesF 0 names
theorem placesF_get : ∀ (names : List Str) (n : Nat) (m : Str), valV (placesF n names) (Sum.inr m) = if m ∈ names then some (V.int ((n + names.idxOf m : Nat) : Int)) else none
  | [], n, m => by rw [if_neg (fun h => nomatch h)]; rfl
  | x :: xs, n, m => by
    show valV ((Sum.inr x, V.int (n : Nat)) :: placesF (n + 1) xs) (Sum.inr m) = _
    by_cases e : x = m
    · subst e
      rw [valV_pos rfl, if_pos List.mem_cons_self, List.idxOf_cons_self]
      rfl
    · rw [valV_neg (fun q => e (Sum.inr.inj q)), placesF_get xs (n + 1) m]
      have h1 : (m ∈ x :: xs) ↔ m ∈ xs := by
        rw [List.mem_cons]
        exact ⟨fun h => h.elim (fun z => absurd z.symm e) id, .inr⟩
      have h2 : (x :: xs).idxOf m = xs.idxOf m + 1 := by
        rw [List.idxOf_cons]
        have : (x == m) = false := beq_eq_false_iff_ne.mpr e
        rw [this]
        rfl
      by_cases h : m ∈ xs
      · rw [if_pos h, if_pos (h1.mpr h), h2, Nat.add_assoc, Nat.add_comm 1]
      · rw [if_neg h, if_neg (fun z => h (h1.mp z))]
theorem placesK_at {names : List Str} {m : Str} (h : m ∈ names) : valV (placesK names) (Sum.inr m) = some (V.int ((names.idxOf m : Nat) : Int)) := by
  unfold placesK
  rw [placesF_get, if_pos h, Nat.zero_add]
def D.small (d : D) : Prop := match d.items? with
  | some ds => ds.length ≤ 1000
  | none => True
/-- texts in a set -/
def inS (ms : List Str) : Key → Bool
  | .inl _ => false
  | .inr m => decide (m ∈ ms)
theorem inS_nil : inS [] = fun _ => false := by
  funext k
  cases k with
  | inl _ => rfl
  | inr m => simp [inS]
theorem inS_add (ms : List Str) (m : Str) : (fun j => inS ms j || decide (j = (Sum.inr m : Key))) = inS (ms ++ [m]) := by
  funext j
  cases j with
  | inl i => show (false || decide ((Sum.inl i : Key) = Sum.inr m)) = false; rw [key_lr]; rfl
  | inr x =>
    show (decide (x ∈ ms) || decide ((Sum.inr x : Key) = Sum.inr m)) = decide (x ∈ ms ++ [m])
    rw [key_rr]
    by_cases h : x ∈ ms
    · simp [h]
    · by_cases e : x = m
      · simp [e]
      · simp [h, e]
def New (H : Hp) : Addr → Prop := fun a => H a = none
def spLits : Sp := fun vs H Q _ => ∃ (S : Addr → Prop) (d : D) (v : V) (pl : Addr) (names : List Str), vs = [.ref pl, v] ∧ H pl = some (.dK (placesK names)) ∧ Rep S H d v ∧ d.small ∧
  (∀ H', Same H H' → litsOf names d = none → Q .non H') ∧ ∀ H' r ls, Same H H' → litsOf names d = some ls → Rep (New H) H' (litsD ls) r → Q r H'
theorem placesK_get (names : List Str) (m : Str) : (valV (placesK names) (Sum.inr m)).isSome = decide (m ∈ names) := by
  unfold placesK
  rw [placesF_get]
  by_cases h : m ∈ names
  · rw [if_pos h, decide_eq_true h]; rfl
  · rw [if_neg h, decide_eq_false h]; rfl
theorem ok_lits (B : Bt mg) (N : Dn K mg "literal_list" sLits ["places", "thing"]) (NL : Dn K mg "is_list" sIsList ["thing"]) (NT : Dn K mg "is_tuple_of" sIsTupleOf ["thing", "length"]) : FnOk P w K mg base CX0 3 N.f N.fd ["places", "thing"] spLits := by
  have GL : FnOk P w K mg base CX0 1 NL.f NL.fd ["thing"] spIsList := ok_isList B NL
  have GT : FnOk P w K mg base CX0 2 NT.f NT.fd ["thing", "length"] spIsTupleOf := ok_isTupleOf B NT NL
  refine N.F.ok scLits (fun vs H Q E h => ?_) (fun cdv A outer s H vs Q E hr h => ?_)
  · obtain ⟨S, d, v, pl, names, rfl, _⟩ := h
    rfl
  · obtain ⟨S, d, v, pl, names, rfl, hpl, hd, sm, k0, k1⟩ := h
    have hu := hu_of hr
    refine ⟨_, pss_cons (ps_if (pt_not (pt_val (pe_call GL (hr.mono (by decide)) rfl NL.g NL.F.kp NL.b .nil pass0 (pa_cons (pv 1) pa_nil)) (fun _ => rfl))) (pss_one (ps_ret pe_non)) pss_nil)
      (pss_cons (ps_set (i := 2) scLits.nd rfl (Or.inl rfl) (pe_lst pa_nil))
      (pss_cons (ps_set (i := 3) scLits.nd rfl (Or.inl rfl) (pe_callTy0 cr_set0K (by rfl) B.set PyProof.Rows.boot_set))
      (pss_cons (ps_for PassesOwn.never rfl (pi_seq (pv 1)) (pg_name (i := 4) scLits.nd rfl (Or.inl rfl))
        (pss_cons (ps_if (pt_not (pt_val (pe_call GT hr rfl NT.g NT.F.kp NT.b .nil pass0 (pa_cons (pv 4) (pa_cons pe_int pa_nil))) (fun _ => rfl))) (pss_one (ps_ret pe_non)) pss_nil)
        (pss_cons (ps_asg (pv 4) (pg_seq rfl (pgs_cons (pg_name (i := 5) scLits.nd rfl (Or.inl rfl)) (pgs_cons (pg_name (i := 6) scLits.nd rfl (Or.inl rfl)) pgs_nil))))
        (pss_cons (ps_if (pw_or (pt_not (pt_val (pe_callB call_isi (by rfl) B.isi PyProof.Rows.boot_isinstance (pa_cons (pv 5) (pa_cons (gt B.str PyProof.Rows.boot_str) pa_nil))) (fun _ => rfl)))
            (pw_or (pt_cmp (pc_dnotin hu (pv 5) (pv 0)) (by rfl))
            (pw_or1 (pt_not (pt_val (pe_callB call_isi (by rfl) B.isi PyProof.Rows.boot_isinstance (pa_cons (pv 6) (pa_cons (gt B.bool PyProof.Rows.boot_bool) pa_nil))) (fun _ => rfl)))))).pt (pss_one (ps_ret pe_non)) pss_nil)
        (pss_cons (ps_if (pt_cmpR or_sinK (pv 5) (pv 3) (by rfl)) (pss_one (ps_ret pe_non)) pss_nil)
        (pss_cons (ps_expr (pe_saddK (pv 3) (pa_cons (pv 5) pa_nil)))
        (pss_one (ps_expr (pe_bm PySem.F.plainAttrs_list PySem.F.slot_list_append PySem.F.type_list_append mt_append (pv 2) (pa_cons (pe_tup (pa_cons (pv 5) (pa_cons (pv 6) pa_nil))) pa_nil))))))))))
      (pss_one (ps_ret (pv 2)))))), ?_⟩
    cases hi : d.items? with
    | none =>
      refine ⟨_, rfl, S, d, v, rfl, hd, fun H1 s1 => ⟨_, rfl, ?_⟩⟩
      have e1 : d.isList = false := by unfold D.isList; rw [hi]; rfl
      rw [e1]
      refine iteT ?_
      exact k0 _ s1 (by unfold litsOf; rw [hi])
    | some ds =>
      refine ⟨_, rfl, S, d, v, rfl, hd, fun H1 s1 => ⟨_, rfl, ?_⟩⟩
      have e1 : d.isList = true := by unfold D.isList; rw [hi]; rfl
      have e2 : litsOf names d = optFold (litS names) ds [] := by unfold litsOf; rw [hi]
      have hsm : ds.length ≤ 1000 := by unfold D.small at sm; rw [hi] at sm; exact sm
      rw [e1]
      refine iteF ?_
      refine ⟨Nat.zero_le _, fun fa hfa => ?_⟩
      refine ⟨rfl, fun se hse => ?_⟩
      have hse1 : H1 se = none := by
        have : se ≠ fa := fun q => by rw [q, upd_same] at hse; cases hse
        rw [upd_ne this] at hse
        exact hse
      have nfs : fa ≠ se := fun q => by rw [← q, upd_same] at hse; cases hse
      obtain ⟨a, us, rfl, hq, rr⟩ := (hd.same s1).seq (K := K) hi
      refine ⟨_, rfl, a, rfl, for_seq (xs := us) (Hb := H1) hq (fun i σ H' => ∃ (acc : List (Str × Bool)) (o4 o5 o6 : Option V) (ts : List V), optFold (litS names) (ds.take i) [] = some acc ∧
        σ = [some (.ref pl), some (.ref a), some (.ref fa), some (.ref se), o4, o5, o6] ∧ Same H1 H' ∧ H' fa = some (.lst ts) ∧ Reps (fun _ => False) H' (acc.map litD) ts ∧
        H' se = some (SetK P w se (inS (acc.map Prod.fst)) acc.length) ∧ acc.length ≤ i)
        ⟨[], none, none, none, [], rfl, rfl, (Same.new hfa).trans (Same.new hse), by rw [upd_ne nfs]; exact upd_same, rfl, (by show upd _ se _ se = some (SetK P w se (inS []) 0); rw [inS_nil]; exact upd_same), Nat.le_refl _⟩ (fun i σ H' _ ⟨_, _, _, _, _, _, _, h, _⟩ => h) ?_ ?_⟩
      · rintro i x σ H' hx ⟨acc, o4, o5, o6, ts, ho, rfl, sm', hf, ht, hs', hl⟩
        have hsl : i < us.length := (List.getElem?_eq_some_iff.mp hx).1
        obtain ⟨dx, hdx, hrx⟩ := (rr.same sm').get hx
        refine ⟨_, rfl, S, dx, x, 2, rfl, hrx, fun H2 s3 => ⟨_, rfl, ?_⟩⟩
        have none_out : litS names acc dx = none → Q .non H2 := fun hn => k0 _ (s1.trans (sm'.trans s3)) (by rw [e2]; exact optFold_none ho hdx hn)
        cases e5 : dx.isOf 2 with
        | false =>
          refine iteT ?_
          refine none_out ?_
          unfold litS lit1
          unfold D.isOf at e5
          cases e6 : dx.items? with
          | none => rfl
          | some xs =>
            rw [e6] at e5
            match xs, e5 with
            | [], _ => rfl
            | [_], _ => rfl
            | [_, _], e5 => cases e5
            | _ :: _ :: _ :: _, _ => rfl
        | true =>
          refine iteF ?_
          obtain ⟨p, q, e6⟩ : ∃ p q, dx.items? = some [p, q] := by
            unfold D.isOf at e5
            cases e6 : dx.items? with
            | none => rw [e6] at e5; cases e5
            | some xs =>
              rw [e6] at e5
              match xs, e5 with
              | [p, q], _ => exact ⟨p, q, rfl⟩
              | [], e5 => cases e5
              | [_], e5 => cases e5
              | _ :: _ :: _ :: _, e5 => simp at e5
          have l1 : lit1 names dx = lit2 names p q := by unfold lit1; rw [e6]
          obtain ⟨b, vs2, rfl, hq2, r2⟩ := (hrx.same s3).seq (K := K) e6
          obtain ⟨vp, r3, rfl, hp, vq, r4, rfl, hqq, rfl⟩ := r2
          refine ⟨_, rfl, b, _, rfl, hq2, rfl, ?_⟩
          refine ⟨vp, _, rfl, ?_⟩
          refine ⟨vq, _, rfl, rfl, ?_⟩
          refine ⟨_, rfl, vp, .ty "str", _, _, _, rfl, .ty "str", hp.ty, kit_str p, _, rfl, ?_⟩
          cases e7 : p.isStr with
          | false =>
            refine iteT (iteT ?_)
            refine none_out ?_
            unfold litS
            rw [l1]
            cases p <;> first | rfl | cases e7
          | true =>
            obtain ⟨m, rfl⟩ : ∃ m, p = .str m := by cases p <;> first | exact ⟨_, rfl⟩ | cases e7
            cases (show vp = .str m from hp)
            refine iteF ?_
            refine ⟨_, rfl, _, rfl, pl, _, rfl, DGet.k (k := Sum.inr m) (s3 _ _ (sm' _ _ (s1 _ _ hpl))), _, rfl, ?_⟩
            rw [placesK_get]
            by_cases e8 : m ∈ names
            · rw [decide_eq_true e8]
              refine iteF ?_
              refine ⟨_, rfl, vq, .ty "bool", _, _, _, rfl, .ty "bool", hqq.ty, kit_bool q, _, rfl, ?_⟩
              cases e9 : q.isBool with
              | false =>
                refine iteT ?_
                refine none_out ?_
                unfold litS
                rw [l1]
                cases q <;> first | rfl | cases e9
              | true =>
                obtain ⟨t, rfl⟩ : ∃ t, q = .bl t := by cases q <;> first | exact ⟨_, rfl⟩ | cases e9
                cases (show vq = .bl t from hqq)
                refine iteF ?_
                have l2 : litS names acc dx = if m ∈ acc.map Prod.fst then none else some (acc ++ [(m, t)]) := by
                  unfold litS
                  rw [l1]
                  show (match (if m ∈ names then some (m, t) else none) with | none => none | some l => _) = _
                  rw [if_pos e8]
                refine ⟨_, rfl, _, rfl, Sum.inr m, se, _, _, rfl, rfl, s3 _ _ hs', _, rfl, ?_⟩
                by_cases e10 : m ∈ acc.map Prod.fst
                · refine ite2 (fun _ => none_out (by rw [l2, if_pos e10])) (fun z => absurd ?_ z)
                  exact decide_eq_true e10
                · refine ite2 (fun z => absurd (of_decide_eq_true z) e10) (fun _ => ?_)
                  have hs3 := s3 _ _ hs'
                  have hf3 := s3 _ _ hf
                  have e11 : inS (acc.map Prod.fst) (Sum.inr m) = false := decide_eq_false e10
                  refine ⟨_, rfl, ⟨se, _, _, rfl, hs3⟩, _, rfl, se, Sum.inr m, _, _, rfl, rfl, hs3, ?_, ?_⟩
                  · have : i < ds.length := (List.getElem?_eq_some_iff.mp hdx).1
                    unfold scanBound
                    omega
                  rw [e11, inS_add]
                  have hf4 : ∀ o, upd H2 se o fa = some (.lst ts) := fun o => by rw [upd_ne nfs]; exact hf3
                  refine ⟨_, rfl, .inl ⟨rfl, _, SqL.of (hf4 _)⟩, _, rfl, _, rfl, (by show 2 ≤ sizeLine; decide), fun tp htp => ?_⟩
                  have ntf : fa ≠ tp := fun z => by rw [← z, hf4] at htp; cases htp
                  have nts : se ≠ tp := fun z => by rw [← z, upd_same] at htp; cases htp
                  have lts : ts.length = acc.length := by rw [ht.length, List.length_map]
                  refine ⟨fa, _, _, rfl, rfl, (by rw [upd_ne ntf]; exact hf4 _), ?_, ?_⟩
                  · have : i < ds.length := (List.getElem?_eq_some_iff.mp hdx).1
                    exact Nat.lt_of_le_of_lt (show ts.length ≤ 1000 by omega) (by decide)
                  have g1 : Same H1 (upd (upd (upd H2 se (SetK P w se (inS (acc.map Prod.fst ++ [m])) (acc.length + 1))) tp (.tup [.str m, .bl t])) fa (.lst (ts ++ [.ref tp]))) := by
                    refine Same.at (Same.trans ?_ (Same.new htp)) hfa
                    exact Same.at (sm'.trans s3) hse1
                  refine ⟨acc ++ [(m, t)], _, _, _, ts ++ [.ref tp], ?_, rfl, g1, upd_same, ?_, ?_, ?_⟩
                  · rw [optFold_step ho hdx, l2, if_neg e10]
                  · rw [List.map_append]
                    refine Reps.append ?_ (Reps.one ⟨tp, [.str m, .bl t], rfl, ?_, ⟨_, _, rfl, rfl, ⟨_, _, rfl, rfl, rfl⟩⟩⟩)
                    · refine Reps.mono (fun _ z => z) ?_ ht
                      refine Stay.trans (stay_of s3) (Stay.trans (stay_upd hs3 nd_ext) (Stay.trans (stay_of (Same.new htp)) (stay_upd (u := .lst ts) (by rw [upd_ne ntf]; exact hf4 _) (nd_lst (fun z => z)))))
                    · rw [upd_ne ntf.symm]
                      exact upd_same
                  · rw [upd_ne nfs.symm, upd_ne nts, upd_same, List.map_append, List.length_append]
                    rfl
                  · rw [List.length_append]
                    show acc.length + 1 ≤ i + 1
                    omega
            · rw [decide_eq_false e8]
              refine iteT (iteT ?_)
              refine none_out ?_
              unfold litS
              rw [l1, lit2_out e8]
      · rintro σ H' ⟨acc, o4, o5, o6, ts, ho, rfl, sm', hf, ht, hs', hl⟩
        refine ⟨_, rfl, ?_⟩
        have e3 : us.length = ds.length := rr.length
        rw [e3, List.take_length] at ho
        refine k1 _ _ acc (s1.trans sm') (by rw [e2]; exact ho) ⟨fa, ts, rfl, s1.free hfa, hf, ?_⟩
        exact Reps.mono (fun _ z => z.elim) (fun _ _ e _ => e) ht
end
end Q1

set_option Elab.async false
set_option maxRecDepth 100000
set_option maxHeartbeats 2000000
namespace Q1
open PySem L2
section
variable {P : Program} {w : World} {K : PySem.W.Frag} {mg : Str → Option Value} {base : Heap}
/-! ### truth_bit -/
abbrev sBit : Stmt := top 18
theorem scBit : FnScope ["place", "truth"] ["place", "truth"] (defScope sBit) := ⟨rfl, rfl, rfl, by decide +kernel, rfl, by decide +kernel, by decide +kernel⟩
def bitAt (n : Nat) (b : Bool) : Int := 1 * 2 ^ (2 * (n : Int) + (if b then 1 else 0)).toNat
def spBit : Sp := fun vs H Q _ => ∃ (n : Nat) (b : Bool), vs = [.int n, .bl b] ∧ n ≤ 100000 ∧ Q (.int (bitAt n b)) H
theorem ok_bit (B : Bt mg) (N : Dn K mg "truth_bit" sBit ["place", "truth"]) : FnOk P w K mg base CX0 1 N.f N.fd ["place", "truth"] spBit := by
  refine N.F.ok scBit (fun vs H Q E h => ?_) (fun cdv A outer s H vs Q E hr h => ?_)
  · obtain ⟨n, b, rfl, _⟩ := h
    rfl
  · obtain ⟨n, b, rfl, hn, k⟩ := h
    refine ⟨_, pss_one (ps_ret (pe_op op_shl pe_int (pe_op op_add (pe_op op_mul pe_int (pv 0)) (pe_callTy call_int1 (by rfl) B.int PyProof.Rows.boot_int (pa_cons (pv 1) pa_nil))))), ?_⟩
    refine ⟨_, rfl, _, _, rfl, rfl, .inl ⟨by decide, by decide⟩, ?_⟩
    refine ⟨_, rfl, .inr ⟨b, rfl, ?_⟩⟩
    refine ⟨_, _, rfl, rfl, ?_⟩
    refine ⟨_, _, rfl, rfl, ⟨?_, ?_, by decide⟩, ?_⟩
    · cases b <;> simp <;> omega
    · cases b <;> simp <;> omega
    · exact k
/-! ### code_of, turned_code -/
abbrev sCode : Stmt := top 16
abbrev sTurn : Stmt := top 17
abbrev nCode : List Str := ["places", "literals", "code", "mark", "truth"]
theorem scCode : FnScope nCode ["places", "literals"] (defScope sCode) := ⟨rfl, rfl, rfl, by decide +kernel, rfl, by decide +kernel, by decide +kernel⟩
theorem scTurn : FnScope nCode ["places", "literals"] (defScope sTurn) := ⟨rfl, rfl, rfl, by decide +kernel, rfl, by decide +kernel, by decide +kernel⟩
def codeS (names : List Str) (x : Bool) (c : Int) (l : Str × Bool) : Int := Builtin.bitOr c (bitAt (names.idxOf l.1) (x ^^ l.2))
def codeOf (names : List Str) (x : Bool) (ls : List (Str × Bool)) : Int := ls.foldl (codeS names x) 0
def spCode (x : Bool) : Sp := fun vs H Q _ => ∃ (S : Addr → Prop) (ls : List (Str × Bool)) (v : V) (pl : Addr) (names : List Str), vs = [.ref pl, v] ∧ H pl = some (.dK (placesK names)) ∧ Rep S H (litsD ls) v ∧ (∀ l ∈ ls, l.1 ∈ names) ∧ names.length ≤ 1000 ∧
  Q (.int (codeOf names x ls)) H
theorem litsD_get {S : Addr → Prop} {H : Hp} {ls : List (Str × Bool)} {v : V} (h : Rep S H (litsD ls) v) : ∃ a vs, v = .ref a ∧ S a ∧ H a = some (.lst vs) ∧ vs.length = ls.length ∧ ∀ (i : Nat) x, vs[i]? = some x → ∃ l t, ls[i]? = some l ∧ x = .ref t ∧ H t = some (.tup [.str l.1, .bl l.2]) := by
  obtain ⟨a, vs, rfl, sa, ha, r⟩ := h
  refine ⟨a, vs, rfl, sa, ha, by rw [r.length, List.length_map], fun i x hx => ?_⟩
  obtain ⟨d, hd, hr⟩ := r.get hx
  rw [List.getElem?_map] at hd
  cases e : ls[i]? with
  | none => rw [e] at hd; cases hd
  | some l =>
    rw [e] at hd
    cases (show some (litD l) = some d from hd)
    obtain ⟨t, us, rfl, ht, r2⟩ := hr
    obtain ⟨u1, r3, rfl, h1, u2, r4, rfl, h2, rfl⟩ := r2
    cases (show u1 = .str l.1 from h1)
    cases (show u2 = .bl l.2 from h2)
    exact ⟨l, t, rfl, rfl, ht⟩
theorem foldl_step {α β : Type} {f : β → α → β} {xs : List α} {i : Nat} {b : β} {a : α} (ha : xs[i]? = some a) : (xs.take (i + 1)).foldl f b = f ((xs.take i).foldl f b) a := by
  rw [List.take_add_one, ha, List.foldl_append]
  rfl
theorem ok_code (B : Bt mg) (N : Dn K mg "code_of" sCode ["places", "literals"]) (NB : Dn K mg "truth_bit" sBit ["place", "truth"]) : FnOk P w K mg base CX0 2 N.f N.fd ["places", "literals"] (spCode false) := by
  have GB : FnOk P w K mg base CX0 1 NB.f NB.fd ["place", "truth"] spBit := ok_bit B NB
  refine N.F.ok scCode (fun vs H Q E h => ?_) (fun cdv A outer s H vs Q E hr h => ?_)
  · obtain ⟨S, ls, v, pl, names, rfl, _⟩ := h
    rfl
  · obtain ⟨S, ls, v, pl, names, rfl, hpl, hd, hin, hn, k⟩ := h
    have hu := hu_of hr
    refine ⟨_, pss_cons (ps_set (i := 2) scCode.nd rfl (Or.inl rfl) pe_int)
      (pss_cons (ps_for PassesOwn.never rfl (pi_list (pv 1)) (pg_tup rfl (pgs_cons (pg_name (i := 3) scCode.nd rfl (Or.inl rfl)) (pgs_cons (pg_name (i := 4) scCode.nd rfl (Or.inl rfl)) pgs_nil)))
        (pss_one (ps_aug (i := 2) scCode.nd rfl (Or.inl rfl) (pe_call GB hr rfl NB.g NB.F.kp NB.b .nil pass0 (pa_cons (pe_dget hu (pv 0) (pv 3) (fun _ _ => rfl)) (pa_cons (pv 4) pa_nil))) iop_or)))
      (pss_one (ps_ret (pv 2)))), ?_⟩
    obtain ⟨a, us, rfl, _, ha, hl, hg⟩ := litsD_get hd
    refine ⟨_, rfl, a, rfl, ⟨us, SqL.of ha⟩, for_list (K := K) (a := a) (xs := us) (fun i σ H' => ∃ (o3 o4 : Option V), H' = H ∧ σ = [some (.ref pl), some (.ref a), some (.int (codeOf names false (ls.take i))), o3, o4])
      ⟨none, none, rfl, rfl⟩ (fun i σ H' _ ⟨_, _, e, _⟩ => by rw [e]; exact SqL.of ha) ?_ ?_⟩
    · rintro i x σ H' hx ⟨o3, o4, rfl, rfl⟩
      obtain ⟨l, t, hls, rfl, ht⟩ := hg i x hx
      have hm := hin l (List.mem_of_getElem? hls)
      refine ⟨t, _, rfl, SqT.of ht, rfl, ?_⟩
      refine ⟨_, _, rfl, _, _, rfl, rfl, ?_⟩
      refine ⟨_, rfl, ?_⟩
      refine ⟨_, rfl, _, rfl, pl, _, rfl, (by rw [← placesK_at hm]; exact DGet.k (k := Sum.inr l.1) hpl), _, rfl, ?_⟩
      refine ⟨names.idxOf l.1, l.2, rfl, ?_, ?_⟩
      · have := List.idxOf_lt_length_of_mem hm
        omega
      · refine ⟨_, _, rfl, rfl, some (.str l.1), some (.bl l.2), rfl, ?_⟩
        have e : codeOf names false (ls.take (i + 1)) = Builtin.bitOr (codeOf names false (ls.take i)) (bitAt (names.idxOf l.1) l.2) := by
          unfold codeOf
          rw [foldl_step hls]
          unfold codeS
          rw [Bool.false_xor]
        rw [e]
        rfl
    · rintro σ H' ⟨o3, o4, rfl, rfl⟩
      refine ⟨_, rfl, ?_⟩
      rw [hl, List.take_length]
      exact k
theorem ok_turn (B : Bt mg) (N : Dn K mg "turned_code" sTurn ["places", "literals"]) (NB : Dn K mg "truth_bit" sBit ["place", "truth"]) : FnOk P w K mg base CX0 2 N.f N.fd ["places", "literals"] (spCode true) := by
  have GB : FnOk P w K mg base CX0 1 NB.f NB.fd ["place", "truth"] spBit := ok_bit B NB
  refine N.F.ok scTurn (fun vs H Q E h => ?_) (fun cdv A outer s H vs Q E hr h => ?_)
  · obtain ⟨S, ls, v, pl, names, rfl, _⟩ := h
    rfl
  · obtain ⟨S, ls, v, pl, names, rfl, hpl, hd, hin, hn, k⟩ := h
    have hu := hu_of hr
    refine ⟨_, pss_cons (ps_set (i := 2) scTurn.nd rfl (Or.inl rfl) pe_int)
      (pss_cons (ps_for PassesOwn.never rfl (pi_list (pv 1)) (pg_tup rfl (pgs_cons (pg_name (i := 3) scTurn.nd rfl (Or.inl rfl)) (pgs_cons (pg_name (i := 4) scTurn.nd rfl (Or.inl rfl)) pgs_nil)))
        (pss_one (ps_aug (i := 2) scTurn.nd rfl (Or.inl rfl) (pe_call GB hr rfl NB.g NB.F.kp NB.b .nil pass0 (pa_cons (pe_dget hu (pv 0) (pv 3) (fun _ _ => rfl)) (pa_cons (pe_not (pv 4)) pa_nil))) iop_or)))
      (pss_one (ps_ret (pv 2)))), ?_⟩
    obtain ⟨a, us, rfl, _, ha, hl, hg⟩ := litsD_get hd
    refine ⟨_, rfl, a, rfl, ⟨us, SqL.of ha⟩, for_list (K := K) (a := a) (xs := us) (fun i σ H' => ∃ (o3 o4 : Option V), H' = H ∧ σ = [some (.ref pl), some (.ref a), some (.int (codeOf names true (ls.take i))), o3, o4])
      ⟨none, none, rfl, rfl⟩ (fun i σ H' _ ⟨_, _, e, _⟩ => by rw [e]; exact SqL.of ha) ?_ ?_⟩
    · rintro i x σ H' hx ⟨o3, o4, rfl, rfl⟩
      obtain ⟨l, t, hls, rfl, ht⟩ := hg i x hx
      have hm := hin l (List.mem_of_getElem? hls)
      refine ⟨t, _, rfl, SqT.of ht, rfl, ?_⟩
      refine ⟨_, _, rfl, _, _, rfl, rfl, ?_⟩
      refine ⟨_, rfl, ?_⟩
      refine ⟨_, rfl, _, rfl, pl, _, rfl, (by rw [← placesK_at hm]; exact DGet.k (k := Sum.inr l.1) hpl), _, rfl, _, rfl, ?_⟩
      refine ⟨names.idxOf l.1, !l.2, rfl, ?_, ?_⟩
      · have := List.idxOf_lt_length_of_mem hm
        omega
      · refine ⟨_, _, rfl, rfl, some (.str l.1), some (.bl l.2), rfl, ?_⟩
        have e : codeOf names true (ls.take (i + 1)) = Builtin.bitOr (codeOf names true (ls.take i)) (bitAt (names.idxOf l.1) (!l.2)) := by
          unfold codeOf
          rw [foldl_step hls]
          unfold codeS
          rw [Bool.true_xor]
        rw [e]
        rfl
    · rintro σ H' ⟨o3, o4, rfl, rfl⟩
      refine ⟨_, rfl, ?_⟩
      rw [hl, List.take_length]
      exact k
end
end Q1

set_option Elab.async false
set_option maxRecDepth 100000
set_option maxHeartbeats 4000000
namespace PySem
theorem q1_meets_enumerate {v : Value} {o : Obj} {H : Heap → Prop} (B : Begins v o H) :
    Meets (Builtin.«enumerate.__new__» ⟨[.type "enumerate", v], []⟩) (fun _ R s => H s.heap ∧
      R (.ok (.ret (.ref (s.heap.push o).objs.size))) { s with heap := (s.heap.push o).push { cls := .type "enumerate", data := .fields #[.none, .bool false, .ref s.heap.objs.size, rawInt 0, .none, .none] } }) :=
  .of_wp fun prog w A R s h => by
    obtain ⟨hp, g, d, tk, os⟩ := s; obtain ⟨h1, h⟩ := h
    have hsub := sub_enumerate
    have q1 : ∀ {A' : Around} {E : Value → Shared → Prop} {Q : Value → Shared → Prop}, Q (.ref hp.objs.size) ⟨hp.push o, g, d, tk, os⟩ → wpAny (model prog w) A' (pyIter v) Q E ⟨hp, g, d, tk, os⟩ :=
      fun q => B.iter prog w _ _ ⟨hp, g, d, tk, os⟩ _ h1 q
    wp_walk using q1
    refine wpAny_stack_any fun st => wpAny_pure ?_
    split
    · rename_i c _ _ _ _ _
      cases (c == Value.type "enumerate")
      · wp_walk using q1
        exact ⟨_, rfl, h⟩
      · wp_walk using q1
        exact ⟨_, rfl, h⟩
    · wp_walk using q1
      exact ⟨_, rfl, h⟩
theorem q1_call_enumerate {prog : Program} {w : World} {A : Around} {E : Value → Shared → Prop} {s : Shared} {v : Value} {o : Obj} {H : Heap → Prop} {Q : Value → Shared → Prop} (B : Begins v o H) (h1 : H s.heap)
    (h : ∀ h', IsEnum h' (s.heap.objs.size + 1) s.heap.objs.size 0 .none → h'.get? s.heap.objs.size = some o → h'.objs.size = s.heap.objs.size + 2 →
      (∀ b o, s.heap.get? b = some o → h'.get? b = some o) → Q (.ref (s.heap.objs.size + 1)) { s with heap := h' }) :
    wpAny (model prog w) A (call (.type "enumerate") [v]) Q E s := by
  refine callType_new F.called_enumerate (by decide) (F.typeCall_enumerate_1 _) (F.newCall_enumerate_1 _) (fun obj => F.args_object_init_2 obj _) F.entry_enumerate_new
    (q1_meets_enumerate B) ⟨h1, ?_⟩
  have hz : (s.heap.push o).objs.size = s.heap.objs.size + 1 := Heap.size_push ..
  show _ ∧ _
  rw [hz]
  have he : IsEnum ((s.heap.push o).push { cls := .type "enumerate", data := .fields #[.none, .bool false, .ref s.heap.objs.size, rawInt 0, .none, .none] }) (s.heap.objs.size + 1) s.heap.objs.size 0 .none := by
    have := Heap.get?_push_size (s.heap.push o) (o := { cls := .type "enumerate", data := .fields #[.none, .bool false, .ref s.heap.objs.size, rawInt 0, .none, .none] }) rfl
    rw [hz] at this; exact this
  refine ⟨⟨_, he, rfl⟩, h _ he (Heap.get?_push_of_some _ (Heap.get?_push_size _ B.free)) (by rw [Heap.size_push, hz]) fun b o x => Heap.get?_push_of_some _ (Heap.get?_push_of_some _ x)⟩
end PySem
namespace L2
open PySem PySem.Spec PyProof.Rows
/-- the tuple at a, each item in a new pair -/
def IteT (K : PySem.W.Frag) (a : Addr) : It :=
  ⟨fun i H => ∃ (xs : List V) (x : V), SqT K H a xs ∧ xs[i]? = some x, fun i H v H' => ∃ T x, v = .ref T ∧ H T = none ∧ H' = upd H T (.tup [.int (i : Nat), x]) ∧ ∀ xs, SqT K H a xs → xs[i]? = some x, fun i H => ∃ xs : List V, SqT K H a xs ∧ xs.length = i⟩
theorem turn_enumT {P : Program} {w : World} {K : PySem.W.Frag} {elts : List Expr} {kk : Nat} {tpos : Pos} (a e it : Addr) (hai : a ≠ it) (hae : e ≠ a) :
    Turn P w K (.Tuple elts kk tpos) (IteT K a) [e, it] e (fun i h => (∃ old, IsEnum h e it ((i : Nat) : Int) old) ∧ h.IsTupleIter it a i ∧ e ≠ it) where
  mem := by simp
  obj := fun i h st b hb => by
    obtain ⟨⟨old, he⟩, ⟨o, ho, hc, hd⟩, _⟩ := st
    have e' : b = e ∨ b = it := by simpa using hb
    rcases e' with z | z
    · rw [z]; exact ⟨_, he, fun v q => nomatch q⟩
    · rw [z]; exact ⟨o, ho, fun v q => by rw [hd] at q; cases q⟩
  keep := fun i h h' st k => let ⟨⟨old, he⟩, hi, hne⟩ := st; ⟨⟨old, k e (by simp) _ he⟩, hi.at fun o q => k it (by simp) o q, hne⟩
  item := by
    intro X hP hw hK hc i pins s σ H E I hf st hg
    subst hP hw hK
    obtain ⟨⟨old, he⟩, hit, hne⟩ := st
    obtain ⟨xs, x, hq, hx⟩ := hg
    obtain ⟨its, rv, p, hz⟩ := I.tuple hq
    obtain ⟨u, hu, ru⟩ := rv.get hx
    have hel : e < s.heap.objs.size := Heap.lt_size he
    have hil : it < s.heap.objs.size := by obtain ⟨_, q, _⟩ := hit; exact Heap.lt_size q
    have hsz0 : i < its.toArray.size := by
      have := (List.getElem?_eq_some_iff.mp hu).1
      simpa using this
    refine wpAny_pyNext_enum_itemD (Draws.tuple (A := X.A.in1) (show X.A.in1.handled = none from I.ok.hd hc) it a hai its.toArray) he ⟨hit, p⟩ hsz0 hne (by simp [hne, hae]) fun x' h' tk hx' ho hit' hT hsz hk => ?_
    have ex : x' = u := by
      have : its.toArray[i]? = some u := by simpa using hu
      rw [this] at hx'
      exact (Option.some.inj hx').symm
    subst ex
    refine ⟨_, rfl, wpAny_letOwnedTupleGo_enum (s := { s with heap := h', toks := tk + 1 }) ho fun h'' he' sb => ?_⟩
    have hT2 : h''.get? s.heap.objs.size = some { cls := .type "tuple", data := .seq #[.int i tk, x'] } := (sb.2 _ (Nat.ne_of_gt hel)).trans hT
    have new : ObjOk X.prog X.w (upd H s.heap.objs.size (.tup [.int (i : Nat), x])) h'' s.heap.objs.size (.tup [.int (i : Nat), x]) :=
      ⟨by show 2 ≤ sizeLine; decide, [.int i tk, x'], .cons ⟨_, rfl⟩ (.cons ru .nil), ⟨_, hT2, rfl, _, rfl⟩⟩
    have I1 : Inv X pins σ (upd H s.heap.objs.size (.tup [.int (i : Nat), x])) { s with heap := h'', toks := tk + 1 } :=
      I.turnedNew (ch := [e, it]) (fun b ob hb q => (sb.2 b (fun z => hb (by simp [z]))).trans (hk b ob (fun z => hb (by simp [z])) (fun z => hb (by simp [z])) q)) hf (Nat.le_refl _) new
    refine ⟨.ref s.heap.objs.size, _, I1, rfl, ⟨_, x, rfl, I.hok.fresh (Nat.le_refl _), rfl, fun ys hy => by rw [I.tuple_inj hy hq]; exact hx⟩, ⟨⟨x', ?_⟩, hit'.1.at fun o q => (sb.2 it (Ne.symm hne)).trans q, hne⟩, fun b hb => ?_⟩
    · have e1 : ((i + 1 : Nat) : Int) = (i : Int) + 1 := by omega
      rw [e1]; exact he'
    · have hb' : b < s.heap.objs.size := by
        have e' : b = e ∨ b = it := by simpa using hb
        rcases e' with z | z
        · rw [z]; exact hel
        · rw [z]; exact hil
      rw [upd_ne (Nat.ne_of_lt hb')]
      exact (hf b hb).1
  done := by
    intro X hP hw hK hc i pins s σ H E I hf st hg
    subst hP hw hK
    obtain ⟨⟨old, he⟩, hit, hne⟩ := st
    obtain ⟨xs, hq, hx⟩ := hg
    obtain ⟨its, rv, p, hz⟩ := I.tuple hq
    obtain ⟨f0, f1, f2, f3, f4, f5⟩ := hf it (by simp)
    have hl := rv.length
    have e0 : i = its.toArray.size := by simp; omega
    subst e0
    exact wpAny_pyNext_enum_endD (Draws.tuple (A := X.A.in1) (show X.A.in1.handled = none from I.ok.hd hc) it a hai its.toArray) he ⟨hit, p⟩ fun h' eb => ⟨rfl, I.turned (t' := s.toks) (fun b o hb q => eb b o hb q) f0 f1 f3 f4 f5⟩
  self := fun A i s Q E st h => let ⟨⟨_, he⟩, _⟩ := st; wpAny_pyIter_enum he h
def iEnumA (K : PySem.W.Frag) (ta : TA) : TI := fun σ H R => ta σ H fun vs H1 => ∃ a xs, vs = [.ref a] ∧ ((SqL K H1 a xs ∧ R (Ite K a) H1) ∨ (SqT K H1 a xs ∧ R (IteT K a) H1))
theorem pi_enumA {X : Cx} {e : Expr} {ta : TA} {p pos tpos : Pos} {elts : List Expr} {kk : Nat} (hg : Gl X "enumerate") (hm : X.mg "enumerate" = none) (ha : PA X [e] ta) (hs : starEach [e] X.env = [(false, eval e X.env)] := by rfl) :
    PI X (.Tuple elts kk tpos) (.Call (.Name "enumerate" p) [e] [] pos) (iEnumA X.K ta) := by
  refine ⟨fun pins s σ H R I h => ?_⟩
  refine Call_ (ld_blt I hg hm boot_enumerate (PyProof.Rows.callWith_type1 (thn (ha.run pos pins s σ H _ I h) fun us s1 ⟨vs, H1, I1, r1, q1⟩ => ?_) hs rfl))
  obtain ⟨a, xs, ex, hq⟩ := q1
  subst ex
  cases r1 with
  | cons r rr =>
    cases rr
    cases r
    have fin : ∀ b, b = s1.heap.objs.size + 1 ∨ b = s1.heap.objs.size → s1.heap.objs.size ≤ b := fun b z => by
      rcases z with z | z
      · rw [z]; exact Nat.le_add_right _ _
      · rw [z]; exact Nat.le_refl _
    rcases hq with ⟨hq, q⟩ | ⟨hq, q⟩
    · obtain ⟨its, rv, p', hz⟩ := I1.list hq
      refine call_enumerate_list p'.isList fun h' he hit hsz hk => wpAny_pyIter_enum he ?_
      have I2 : Inv X pins σ H1 { s1 with heap := h' } := I1.kept (t' := s1.toks) hk
      refine ⟨s1.heap.objs.size + 1, [s1.heap.objs.size + 1, s1.heap.objs.size], _, _, H1, rfl, I2, turn_enum a (s1.heap.objs.size + 1) s1.heap.objs.size, ⟨⟨.none, he⟩, hit, Nat.succ_ne_self _⟩, fun b hb => ?_, q⟩
      have e' : b = s1.heap.objs.size + 1 ∨ b = s1.heap.objs.size := by simpa using hb
      have hle := fin b e'
      exact I1.fpOk hle (I1.hok.fresh hle)
    · obtain ⟨its, rv, p', hz⟩ := I1.tuple hq
      have hal : a < s1.heap.objs.size := by
        obtain ⟨o, ho, _⟩ := p'
        exact Heap.lt_size ho
      refine q1_call_enumerate (begins_tuple a its.toArray) p' fun h' he hit hsz hk => wpAny_pyIter_enum he ?_
      have I2 : Inv X pins σ H1 { s1 with heap := h' } := I1.kept (t' := s1.toks) hk
      refine ⟨s1.heap.objs.size + 1, [s1.heap.objs.size + 1, s1.heap.objs.size], _, _, H1, rfl, I2, turn_enumT a (s1.heap.objs.size + 1) s1.heap.objs.size (Nat.ne_of_lt hal) (Nat.ne_of_gt (Nat.lt_succ_of_lt hal)), ⟨⟨.none, he⟩, ⟨_, hit, rfl, rfl⟩, Nat.succ_ne_self _⟩, fun b hb => ?_, q⟩
      have e' : b = s1.heap.objs.size + 1 ∨ b = s1.heap.objs.size := by simpa using hb
      have hle := fin b e'
      exact I1.fpOk hle (I1.hok.fresh hle)
theorem walk_enumT {K : PySem.W.Frag} {a : Addr} {xs : List V} : Walk (IteT K a) xs.length (fun H => SqT K H a xs) (YPair (fun i => some (.int (i : Nat))) (fun i => xs[i]?)) := by
  refine ⟨fun i _ hi q => ⟨xs, xs[i], q, by simp [hi]⟩, fun _ q => ⟨xs, q, rfl⟩, fun i H v H' _ q y => ?_⟩
  obtain ⟨T, x, h1, h2, h3, h4⟩ := y
  exact ⟨T, .int (i : Nat), x, h1, h2, h3, rfl, h4 xs q⟩
end L2

set_option Elab.async false
set_option maxRecDepth 100000
set_option maxHeartbeats 4000000
namespace Q1
open PySem L2
def rSeqA (K : PySem.W.Frag) : R2 := fun x y H Q => ∃ (p : Addr) (xs : List V) (i : Int) (v : V), x = .ref p ∧ y = .int i ∧ (SqL K H p xs ∨ SqT K H p xs) ∧ atI xs i = some v ∧ Q v H
theorem ix_seqA {X : Cx} : IxR X (rSeqA X.K) := by
  intro value slice pins s σ H x y v u Q I rx ry h hs
  obtain ⟨p, xs, i, z, e1, e2, hq, he, q⟩ := h
  rcases hq with hq | hq
  · exact ix_list value slice pins s σ H x y v u Q I rx ry ⟨p, xs, i, z, e1, e2, hq, he, q⟩ hs
  · exact ix_tup value slice pins s σ H x y v u Q I rx ry ⟨p, xs, i, z, e1, e2, hq, he, q⟩ hs
theorem for_enumA {K : PySem.W.Frag} {a : Addr} {xs : List V} {g : TG} {tb : TS} {D : Ends} {σ : L2.St} {H Hb : Hp} (hq : SqL K Hb a xs ∨ SqT K Hb a xs) (Pv : Nat → L2.St → Hp → Prop) (h0 : Pv 0 σ H) (hS : ∀ i σ H', i ≤ xs.length → Pv i σ H' → Same Hb H')
    (hs : ∀ (i : Nat) T x σ H', xs[i]? = some x → Pv i σ H' → H' T = none → g (.ref T) σ (upd H' T (.tup [.int (i : Nat), x])) fun σ2 H2 => tb { D with nx := Pv (i + 1), ct := Pv (i + 1), bk := D.nx } σ2 H2) (hd : ∀ σ H', Pv xs.length σ H' → D.nx σ H') :
    ((SqL K H a xs ∧ (fun J H => ∃ W : Nat → Nat → L2.St → Hp → Prop, (∃ m, W 0 m σ H) ∧ ∀ i m σ H, W i m σ H → (It.stop J i H ∧ D.nx σ H) ∨ (It.go J i H ∧ ∃ N : L2.St → Hp → Prop, (∀ σ' H', N σ' H' → ∃ m', m' < m ∧ W (i + 1) m' σ' H') ∧ ∀ x H', It.yld J i H x H' → g x σ H' fun σ2 H2 => tb { D with nx := N, ct := N, bk := D.nx } σ2 H2)) (Ite K a) H) ∨
    (SqT K H a xs ∧ (fun J H => ∃ W : Nat → Nat → L2.St → Hp → Prop, (∃ m, W 0 m σ H) ∧ ∀ i m σ H, W i m σ H → (It.stop J i H ∧ D.nx σ H) ∨ (It.go J i H ∧ ∃ N : L2.St → Hp → Prop, (∀ σ' H', N σ' H' → ∃ m', m' < m ∧ W (i + 1) m' σ' H') ∧ ∀ x H', It.yld J i H x H' → g x σ H' fun σ2 H2 => tb { D with nx := N, ct := N, bk := D.nx } σ2 H2)) (IteT K a) H)) := by
  have b0 := hS 0 σ H (Nat.zero_le _) h0
  rcases hq with hq | hq
  · refine .inl ⟨b0.seq hq, for_it walk_enum Pv h0 (fun i σ' H' hi p => (hS i σ' H' hi p).seq hq) (fun i x σ' H' H2 hi p y => ?_) hd⟩
    obtain ⟨T, x1, x2, rfl, hT, rfl, e1, e2⟩ := y
    cases e1
    exact hs i T x2 σ' H' e2 p hT
  · refine .inr ⟨seqT b0 hq, for_it walk_enumT Pv h0 (fun i σ' H' hi p => seqT (hS i σ' H' hi p) hq) (fun i x σ' H' H2 hi p y => ?_) hd⟩
    obtain ⟨T, x1, x2, rfl, hT, rfl, e1, e2⟩ := y
    cases e1
    exact hs i T x2 σ' H' e2 p hT
section
variable {P : Program} {w : World} {K : PySem.W.Frag} {mg : Str → Option Value} {base : Heap}
/-! ### is_hand -/
abbrev sIsHand : Stmt := top 20
abbrev nIsHand : List Str := ["thing", "p", "q"]
theorem scIsHand : FnScope nIsHand ["thing"] (defScope sIsHand) := ⟨rfl, rfl, rfl, by decide +kernel, rfl, by decide +kernel, by decide +kernel⟩
theorem beq_dec (a b : Str) : (a == b) = decide (b = a) := by
  by_cases h : b = a
  · rw [decide_eq_true h, h]; exact beq_self_eq_true a
  · rw [decide_eq_false h]; exact beq_eq_false_iff_ne.mpr (fun z => h z.symm)
def isOdds : D → D → Bool
  | .int p, .int q => decide (0 < p) && decide (p < q)
  | _, _ => false
def D.isHand (d : D) : Bool := match d with
  | .str s => decide (s = "we") || decide (s = "they")
  | d => match d.items? with
    | some [p, q] => isOdds p q
    | _ => false
def spIsHand : Sp := fun vs H Q _ => ∃ (S : Addr → Prop) (d : D) (v : V), vs = [v] ∧ Rep S H d v ∧ ∀ H', Same H H' → Q (.bl d.isHand) H'
theorem ok_isHand (B : Bt mg) (N : Dn K mg "is_hand" sIsHand ["thing"]) (NL : Dn K mg "is_list" sIsList ["thing"]) (NT : Dn K mg "is_tuple_of" sIsTupleOf ["thing", "length"]) (NI : Dn K mg "is_integer" sIsInteger ["thing"]) : FnOk P w K mg base CX0 3 N.f N.fd ["thing"] spIsHand := by
  have GT : FnOk P w K mg base CX0 2 NT.f NT.fd ["thing", "length"] spIsTupleOf := ok_isTupleOf B NT NL
  have GI : FnOk P w K mg base CX0 1 NI.f NI.fd ["thing"] spIsInteger := ok_isInteger B NI
  refine N.F.ok scIsHand (fun vs H Q E h => ?_) (fun cdv A outer s H vs Q E hr h => ?_)
  · obtain ⟨S, d, v, rfl, _⟩ := h
    rfl
  · obtain ⟨S, d, v, rfl, hd, k⟩ := h
    refine ⟨_, pss_cons (ps_if (pt_val (pe_callB call_isi (by rfl) B.isi PyProof.Rows.boot_isinstance (pa_cons (pv 0) (pa_cons (gt B.str PyProof.Rows.boot_str) pa_nil))) (fun _ => rfl))
        (pss_one (ps_ret (pe_cmpR op_in_seq (pv 0) (pe_tup (pa_cons pe_str (pa_cons pe_str pa_nil))) (by rfl)))) pss_nil)
      (pss_cons (ps_if (pt_not (pt_val (pe_call GT hr rfl NT.g NT.F.kp NT.b .nil pass0 (pa_cons (pv 0) (pa_cons pe_int pa_nil))) (fun _ => rfl))) (pss_one (ps_ret pe_bl)) pss_nil)
      (pss_cons (ps_asg (pv 0) (pg_seq rfl (pgs_cons (pg_name (i := 1) scIsHand.nd rfl (Or.inl rfl)) (pgs_cons (pg_name (i := 2) scIsHand.nd rfl (Or.inl rfl)) pgs_nil))))
      (pss_one (ps_ret (pe_and (pe_call GI (hr.mono (by decide)) (by rfl) NI.g NI.F.kp NI.b .nil pass0 (pa_cons (pv 1) pa_nil)) (pe_and (pe_call GI (hr.mono (by decide)) (by rfl) NI.g NI.F.kp NI.b .nil pass0 (pa_cons (pv 2) pa_nil)) (pe_one (pe_chain op_lt op_lt pe_int (pv 1) (pv 2))))))))), ?_⟩
    refine ⟨_, rfl, v, .ty "str", _, _, _, rfl, .ty "str", hd.ty, kit_str d, _, rfl, ?_⟩
    cases hs : d.isStr with
    | true =>
      obtain ⟨z, rfl⟩ : ∃ z, d = .str z := by cases d <;> first | exact ⟨_, rfl⟩ | cases hs
      cases (show v = .str z from hd)
      refine iteT ?_
      refine ⟨_, rfl, (by show 2 ≤ sizeLine; decide), fun t ht => ?_⟩
      refine ⟨t, _, rfl, .inr (SqT.of upd_same), rfl, rfl, ?_⟩
      have e : (if false = true then !inV (V.str z) [.str "we", .str "they"] else inV (V.str z) [.str "we", .str "they"]) = (D.str z).isHand := by
        show inV (V.str z) [.str "we", .str "they"] = (decide (z = "we") || decide (z = "they"))
        show ((("we" : Str) == z) || ((("they" : Str) == z) || false)) = _
        rw [Bool.or_false, beq_dec, beq_dec]
      rw [e]
      exact k _ (Same.new ht)
    | false =>
      refine iteF ?_
      refine ⟨_, rfl, S, d, v, 2, rfl, hd, fun H1 s1 => ⟨_, rfl, ?_⟩⟩
      have eH : d.isHand = match d.items? with
        | some [p, q] => isOdds p q
        | _ => false := by cases d <;> first | rfl | cases hs
      cases e5 : d.isOf 2 with
      | false =>
        refine iteT ?_
        have : d.isHand = false := by
          rw [eH]
          unfold D.isOf at e5
          cases e6 : d.items? with
          | none => rfl
          | some xs =>
            rw [e6] at e5
            match xs, e5 with
            | [], _ => rfl
            | [_], _ => rfl
            | [_, _], e5 => cases e5
            | _ :: _ :: _ :: _, _ => rfl
        show Q (.bl false) _
        rw [← this]
        exact k _ s1
      | true =>
        refine iteF ?_
        obtain ⟨p, q, e6⟩ : ∃ p q, d.items? = some [p, q] := by
          unfold D.isOf at e5
          cases e6 : d.items? with
          | none => rw [e6] at e5; cases e5
          | some xs =>
            rw [e6] at e5
            match xs, e5 with
            | [p, q], _ => exact ⟨p, q, rfl⟩
            | [], e5 => cases e5
            | [_], e5 => cases e5
            | _ :: _ :: _ :: _, e5 => simp at e5
        rw [e6] at eH
        have eH : d.isHand = isOdds p q := eH
        obtain ⟨b, vs2, rfl, hq2, r2⟩ := (hd.same s1).seq (K := K) e6
        obtain ⟨vp, r3, rfl, hp, vq, r4, rfl, hqq, rfl⟩ := r2
        refine ⟨_, rfl, b, _, rfl, hq2, rfl, ?_⟩
        refine ⟨vp, _, rfl, ?_⟩
        refine ⟨vq, _, rfl, rfl, ?_⟩
        refine ⟨_, rfl, S, p, vp, rfl, hp, _, rfl, ?_⟩
        cases e7 : p.isInteger with
        | false =>
          refine iteF ?_
          have : d.isHand = false := by rw [eH]; cases p <;> first | rfl | cases e7
          show Q (.bl false) _
          rw [← this]
          exact k _ s1
        | true =>
          obtain ⟨i, rfl⟩ : ∃ i, p = .int i := by cases p <;> first | exact ⟨_, rfl⟩ | cases e7
          cases (show vp = .int i from hp)
          refine iteT ?_
          refine ⟨_, rfl, S, q, vq, rfl, hqq, _, rfl, ?_⟩
          cases e8 : q.isInteger with
          | false =>
            refine iteF ?_
            have : d.isHand = false := by rw [eH]; cases q <;> first | rfl | cases e8
            show Q (.bl false) _
            rw [← this]
            exact k _ s1
          | true =>
            obtain ⟨j, rfl⟩ : ∃ j, q = .int j := by cases q <;> first | exact ⟨_, rfl⟩ | cases e8
            cases (show vq = .int j from hqq)
            refine iteT ?_
            have eH : d.isHand = (decide (0 < i) && decide (i < j)) := eH
            refine ⟨_, rfl, _, _, rfl, rfl, _, rfl, ?_⟩
            refine ite2 (fun h1 => ?_) (fun h1 => ?_)
            · refine ⟨_, rfl, _, _, rfl, rfl, ?_⟩
              have kk := k _ s1
              rw [eH, h1, Bool.true_and] at kk
              exact kk
            · have kk := k _ s1
              rw [eH, Bool.eq_false_iff.mpr h1, Bool.false_and] at kk
              exact kk
/-! ### first_wrong_mark -/
abbrev sFwm : Stmt := top 21
abbrev nFwm : List Str := ["marks", "seen", "index", "thing"]
theorem scFwm : FnScope nFwm ["marks"] (defScope sFwm) := ⟨rfl, rfl, rfl, by decide +kernel, rfl, by decide +kernel, by decide +kernel⟩
/-- the name of a thing that is a pair of a name and a hand -/
def mark2 : D → D → Option Str
  | .str m, h => if isNameS m && h.isHand then some m else none
  | _, _ => none
def mark1 (d : D) : Option Str := match d.items? with
  | some [a, b] => mark2 a b
  | _ => none
def markS (acc : List Str) (d : D) : Option (List Str) := match mark1 d with
  | none => none
  | some m => if m ∈ acc then none else some (acc ++ [m])
/-- the index of the first thing at which the fold stops -/
def stopAt {α β : Type} (f : β → α → Option β) : List α → β → Nat → Option Nat
  | [], _, _ => none
  | a :: as, b, n => match f b a with
    | none => some n
    | some c => stopAt f as c (n + 1)
theorem stopAt_some {α β : Type} {f : β → α → Option β} {a : α} {c : β} : ∀ {xs : List α} {i : Nat} {b : β} (n : Nat), optFold f (xs.take i) b = some c → xs[i]? = some a → f c a = none → stopAt f xs b n = some (n + i)
  | [], i, b, n, _, e, _ => by simp at e
  | x :: xs, 0, b, n, h, e, hn => by
    have h1 : b = c := Option.some.inj h
    have h2 : x = a := Option.some.inj e
    subst h1 h2
    show (match f b x with | none => some n | some d => stopAt f xs d (n + 1)) = _
    rw [hn]
    rfl
  | x :: xs, i + 1, b, n, h, e, hn => by
    have h : (match f b x with | none => none | some d => optFold f (xs.take i) d) = some c := h
    show (match f b x with | none => some n | some d => stopAt f xs d (n + 1)) = _
    cases q : f b x with
    | none => rw [q] at h; cases h
    | some d =>
      rw [q] at h
      have := stopAt_some (i := i) (n + 1) (show optFold f (xs.take i) d = some c from h) (show xs[i]? = some a from e) hn
      show stopAt f xs d (n + 1) = _
      rw [this]
      congr 1
      omega
theorem stopAt_none {α β : Type} {f : β → α → Option β} {c : β} : ∀ {xs : List α} {b : β} (n : Nat), optFold f xs b = some c → stopAt f xs b n = none
  | [], _, _, _ => rfl
  | x :: xs, b, n, h => by
    have h : (match f b x with | none => none | some d => optFold f xs d) = some c := h
    show (match f b x with | none => some n | some d => stopAt f xs d (n + 1)) = _
    cases q : f b x with
    | none => rw [q] at h; cases h
    | some d => rw [q] at h; exact stopAt_none (n + 1) h
def firstMark (d : D) : Option Nat := match d.items? with
  | none => some 0
  | some ds => stopAt markS ds [] 0
def optV : Option Nat → V
  | none => .non
  | some n => .int (n : Nat)
/-- every text in it is short -/
def shortL (ds : List D) : Prop := ∀ d ∈ ds, ∀ xs, d.items? = some xs → ∀ x ∈ xs, x.short
def spFwm : Sp := fun vs H Q _ => ∃ (S : Addr → Prop) (d : D) (v : V), vs = [v] ∧ Rep S H d v ∧ d.small ∧ (∀ ds, d.items? = some ds → shortL ds) ∧ ∀ H', Same H H' → Q (optV (firstMark d)) H'
theorem ok_fwm (B : Bt mg) (C : Cs mg) (N : Dn K mg "first_wrong_mark" sFwm ["marks"]) (NL : Dn K mg "is_list" sIsList ["thing"]) (NT : Dn K mg "is_tuple_of" sIsTupleOf ["thing", "length"]) (NN : Dn K mg "is_name" sIsName ["thing"])
    (NH : Dn K mg "is_hand" sIsHand ["thing"]) (NI : Dn K mg "is_integer" sIsInteger ["thing"]) : FnOk P w K mg base CX0 4 N.f N.fd ["marks"] spFwm := by
  have GL : FnOk P w K mg base CX0 1 NL.f NL.fd ["thing"] spIsList := ok_isList B NL
  have GT : FnOk P w K mg base CX0 2 NT.f NT.fd ["thing", "length"] spIsTupleOf := ok_isTupleOf B NT NL
  have GN : FnOk P w K mg base CX0 1 NN.f NN.fd ["thing"] spIsName := ok_isName B C NN
  have GH : FnOk P w K mg base CX0 3 NH.f NH.fd ["thing"] spIsHand := ok_isHand B NH NL NT NI
  refine N.F.ok scFwm (fun vs H Q E h => ?_) (fun cdv A outer s H vs Q E hr h => ?_)
  · obtain ⟨S, d, v, rfl, _⟩ := h
    rfl
  · obtain ⟨S, d, v, rfl, hd, sm, sh, k⟩ := h
    refine ⟨_, pss_cons (ps_if (pt_not (pt_val (pe_call GL (hr.mono (by decide)) (by rfl) NL.g NL.F.kp NL.b .nil pass0 (pa_cons (pv 0) pa_nil)) (fun _ => rfl))) (pss_one (ps_ret pe_int)) pss_nil)
      (pss_cons (ps_set (i := 1) scFwm.nd rfl (Or.inl rfl) (pe_callTy0 cr_set0K (by rfl) B.set PyProof.Rows.boot_set))
      (pss_cons (ps_for PassesOwn.never rfl (pi_enumA (by rfl) B.enumerate (pa_cons (pv 0) pa_nil)) (pg_tup rfl (pgs_cons (pg_name (i := 2) scFwm.nd rfl (Or.inl rfl)) (pgs_cons (pg_name (i := 3) scFwm.nd rfl (Or.inl rfl)) pgs_nil)))
        (pss_cons (ps_if (pw_or (pt_not (pt_val (pe_call GT (hr.mono (by decide)) (by rfl) NT.g NT.F.kp NT.b .nil pass0 (pa_cons (pv 3) (pa_cons pe_int pa_nil))) (fun _ => rfl)))
            (pw_or (pt_not (pt_val (pe_call GN (hr.mono (by decide)) (by rfl) NN.g NN.F.kp NN.b .nil pass0 (pa_cons (pe_ix ix_seqA (pv 3) pe_int (fun _ _ => rfl)) pa_nil)) (fun _ => rfl)))
            (pw_or1 (pt_not (pt_val (pe_call GH hr (by rfl) NH.g NH.F.kp NH.b .nil pass0 (pa_cons (pe_ix ix_seqA (pv 3) pe_int (fun _ _ => rfl)) pa_nil)) (fun _ => rfl)))))).pt (pss_one (ps_ret (pv 2))) pss_nil)
        (pss_cons (ps_if (pt_cmpR or_sinK (pe_ix ix_seqA (pv 3) pe_int (fun _ _ => rfl)) (pv 1) (by rfl)) (pss_one (ps_ret (pv 2))) pss_nil)
        (pss_one (ps_expr (pe_saddK (pv 1) (pa_cons (pe_ix ix_seqA (pv 3) pe_int (fun _ _ => rfl)) pa_nil)))))))
      (pss_one (ps_ret pe_non)))), ?_⟩
    have out : ∀ H', Same H H' → ∀ o, firstMark d = o → Q (optV o) H' := fun H' e o h => by rw [← h]; exact k H' e
    cases hi : d.items? with
    | none =>
      refine ⟨_, rfl, S, d, v, rfl, hd, fun H1 s1 => ⟨_, rfl, ?_⟩⟩
      have e1 : d.isList = false := by unfold D.isList; rw [hi]; rfl
      rw [e1]
      refine iteT ?_
      exact out _ s1 (some 0) (by unfold firstMark; rw [hi])
    | some ds =>
      refine ⟨_, rfl, S, d, v, rfl, hd, fun H1 s1 => ⟨_, rfl, ?_⟩⟩
      have e1 : d.isList = true := by unfold D.isList; rw [hi]; rfl
      have e2 : firstMark d = stopAt markS ds [] 0 := by unfold firstMark; rw [hi]
      have hsm : ds.length ≤ 1000 := by unfold D.small at sm; rw [hi] at sm; exact sm
      have hsh := sh ds hi
      rw [e1]
      refine iteF ?_
      refine ⟨rfl, fun se hse => ?_⟩
      obtain ⟨a, us, rfl, hq, rr⟩ := (hd.same s1).seq (K := K) hi
      have hus : us.length = ds.length := rr.length
      refine ⟨_, rfl, a, us, rfl, for_enumA (Hb := H1) hq (fun i σ H' => ∃ (acc : List Str) (o2 o3 : Option V), optFold markS (ds.take i) [] = some acc ∧
        σ = [some (.ref a), some (.ref se), o2, o3] ∧ Same H1 H' ∧ H' se = some (SetK P w se (inS acc) acc.length) ∧ acc.length ≤ i)
        ⟨[], none, none, rfl, rfl, Same.new hse, (by show upd H1 se _ se = some (SetK P w se (inS []) 0); rw [inS_nil]; exact upd_same), Nat.le_refl _⟩ (fun i σ H' _ ⟨_, _, _, _, _, h, _⟩ => h) ?_ ?_⟩
      · rintro i T x σ H' hx ⟨acc, o2, o3, ho, rfl, sm', hs', hl⟩ hT
        have hsl : i < us.length := (List.getElem?_eq_some_iff.mp hx).1
        obtain ⟨dx, hdx, hrx⟩ := (rr.same sm').get hx
        have sT : Same H' (upd H' T (.tup [.int (i : Nat), x])) := Same.new hT
        refine ⟨T, _, rfl, SqT.of upd_same, rfl, ?_⟩
        refine ⟨_, _, rfl, _, _, rfl, rfl, ?_⟩
        refine ⟨_, rfl, S, dx, x, 2, rfl, hrx.same sT, fun H2 s3 => ⟨_, rfl, ?_⟩⟩
        have s4 : Same H' H2 := sT.trans s3
        have idx_out : ∀ H3, Same H2 H3 → markS acc dx = none → Q (.int (i : Nat)) H3 := fun H3 s5 hn => out _ (s1.trans (sm'.trans (s4.trans s5))) (some i) (by rw [e2, stopAt_some 0 ho hdx hn, Nat.zero_add])
        cases e5 : dx.isOf 2 with
        | false =>
          refine iteT (iteT ⟨_, rfl, ?_⟩)
          refine idx_out _ (Same.refl _) ?_
          unfold markS mark1
          unfold D.isOf at e5
          cases e6 : dx.items? with
          | none => rfl
          | some xs =>
            rw [e6] at e5
            match xs, e5 with
            | [], _ => rfl
            | [_], _ => rfl
            | [_, _], e5 => cases e5
            | _ :: _ :: _ :: _, _ => rfl
        | true =>
          refine iteF ?_
          obtain ⟨p, q, e6⟩ : ∃ p q, dx.items? = some [p, q] := by
            unfold D.isOf at e5
            cases e6 : dx.items? with
            | none => rw [e6] at e5; cases e5
            | some xs =>
              rw [e6] at e5
              match xs, e5 with
              | [p, q], _ => exact ⟨p, q, rfl⟩
              | [], e5 => cases e5
              | [_], e5 => cases e5
              | _ :: _ :: _ :: _, e5 => simp at e5
          have l1 : mark1 dx = mark2 p q := by unfold mark1; rw [e6]
          obtain ⟨b, vs2, rfl, hq2, r2⟩ := (hrx.same s4).seq (K := K) e6
          obtain ⟨vp, r3, rfl, hp, vq, r4, rfl, hqq, rfl⟩ := r2
          have shp : p.short := hsh dx (List.mem_of_getElem? hdx) _ e6 p List.mem_cons_self
          refine ⟨_, rfl, b, _, 0, vp, rfl, rfl, hq2, rfl, S, p, vp, rfl, hp, shp, fun H3 s5 => ⟨_, rfl, ?_⟩⟩
          have hq3 : SqL K H3 b [vp, vq] ∨ SqT K H3 b [vp, vq] := hq2.elim (fun z => .inl (s5.seq z)) (fun z => .inr (seqT s5 z))
          cases e7 : p.isName with
          | false =>
            refine iteT (iteT ⟨_, rfl, ?_⟩)
            refine idx_out _ s5 ?_
            unfold markS
            rw [l1]
            cases p with
            | str m =>
              have e7 : isNameS m = false := e7
              show (match (if isNameS m && q.isHand then some m else none) with | none => none | some m => _) = none
              rw [e7]
              rfl
            | _ => rfl
          | true =>
            obtain ⟨m, rfl⟩ : ∃ m, p = .str m := by cases p <;> first | exact ⟨_, rfl⟩ | cases e7
            cases (show vp = .str m from hp)
            have e7 : isNameS m = true := e7
            refine iteF ?_
            refine ⟨_, rfl, b, _, 1, vq, rfl, rfl, hq3, rfl, S, q, vq, rfl, hqq.same s5, fun H4 s6 => ⟨_, rfl, ?_⟩⟩
            have hq4 : SqL K H4 b [.str m, vq] ∨ SqT K H4 b [.str m, vq] := hq3.elim (fun z => .inl (s6.seq z)) (fun z => .inr (seqT s6 z))
            have l2 : mark1 dx = if q.isHand then some m else none := by
              rw [l1]
              show (if isNameS m && q.isHand then some m else none) = _
              rw [e7, Bool.true_and]
            cases e8 : q.isHand with
            | false =>
              refine iteT ⟨_, rfl, ?_⟩
              refine idx_out _ (s5.trans s6) ?_
              unfold markS
              rw [l2, e8]
              rfl
            | true =>
              refine iteF ?_
              have l3 : markS acc dx = if m ∈ acc then none else some (acc ++ [m]) := by
                unfold markS
                rw [l2, e8]
                rfl
              have hs4 : H4 se = some (SetK P w se (inS acc) acc.length) := s6 _ _ (s5 _ _ (s4 _ _ hs'))
              refine ⟨_, rfl, b, _, 0, .str m, rfl, rfl, hq4, rfl, _, rfl, Sum.inr m, se, _, _, rfl, rfl, hs4, _, rfl, ?_⟩
              by_cases e10 : m ∈ acc
              · refine ite2 (fun _ => ⟨_, rfl, idx_out _ (s5.trans s6) (by rw [l3, if_pos e10])⟩) (fun z => absurd ?_ z)
                exact decide_eq_true e10
              · refine ite2 (fun z => absurd (of_decide_eq_true z) e10) (fun _ => ?_)
                have e11 : inS acc (Sum.inr m) = false := decide_eq_false e10
                refine ⟨_, rfl, ⟨se, _, _, rfl, hs4⟩, _, rfl, b, _, 0, .str m, rfl, rfl, hq4, rfl, se, Sum.inr m, _, _, rfl, rfl, hs4, ?_, ?_⟩
                · unfold scanBound
                  omega
                · rw [e11, inS_add]
                  refine ⟨acc ++ [m], _, _, ?_, rfl, ?_, ?_, ?_⟩
                  · rw [optFold_step ho hdx, l3, if_neg e10]
                  · exact Same.at (sm'.trans (s4.trans (s5.trans s6))) hse
                  · rw [upd_same, List.length_append]
                    rfl
                  · rw [List.length_append]
                    show acc.length + 1 ≤ i + 1
                    omega
      · rintro σ H' ⟨acc, o2, o3, ho, rfl, sm', hs', hl⟩
        rw [hus, List.take_length] at ho
        exact out _ (s1.trans sm') none (by rw [e2]; exact stopAt_none 0 ho)
end
end Q1

set_option Elab.async false
set_option maxRecDepth 100000
set_option maxHeartbeats 4000000
namespace Q1
open PySem L2
section
variable {P : Program} {w : World} {K : PySem.W.Frag} {mg : Str → Option Value} {base : Heap}
/-! ### first_wrong_clause -/
abbrev sFwc : Stmt := top 22
abbrev nFwc : List Str := ["places", "clauses", "index", "thing"]
theorem scFwc : FnScope nFwc ["places", "clauses"] (defScope sFwc) := ⟨rfl, rfl, rfl, by decide +kernel, rfl, by decide +kernel, by decide +kernel⟩
def clauseS (names : List Str) (_ : Unit) (d : D) : Option Unit := (litsOf names d).map fun _ => ()
def firstClause (names : List Str) (d : D) : Option Nat := match d.items? with
  | none => some 0
  | some ds => stopAt (clauseS names) ds () 0
def smallL (ds : List D) : Prop := ∀ d ∈ ds, d.small
def spFwc : Sp := fun vs H Q _ => ∃ (S : Addr → Prop) (d : D) (v : V) (pl : Addr) (names : List Str), vs = [.ref pl, v] ∧ H pl = some (.dK (placesK names)) ∧ Rep S H d v ∧ (∀ ds, d.items? = some ds → smallL ds) ∧ ∀ H', Same H H' → Q (optV (firstClause names d)) H'
theorem ok_fwc (B : Bt mg) (N : Dn K mg "first_wrong_clause" sFwc ["places", "clauses"]) (NL : Dn K mg "is_list" sIsList ["thing"]) (NT : Dn K mg "is_tuple_of" sIsTupleOf ["thing", "length"]) (NS : Dn K mg "literal_list" sLits ["places", "thing"]) : FnOk P w K mg base CX0 4 N.f N.fd ["places", "clauses"] spFwc := by
  have GL : FnOk P w K mg base CX0 1 NL.f NL.fd ["thing"] spIsList := ok_isList B NL
  have GS : FnOk P w K mg base CX0 3 NS.f NS.fd ["places", "thing"] spLits := ok_lits B NS NL NT
  refine N.F.ok scFwc (fun vs H Q E h => ?_) (fun cdv A outer s H vs Q E hr h => ?_)
  · obtain ⟨S, d, v, pl, names, rfl, _⟩ := h
    rfl
  · obtain ⟨S, d, v, pl, names, rfl, hpl, hd, sm, k⟩ := h
    refine ⟨_, pss_cons (ps_if (pt_not (pt_val (pe_call GL (hr.mono (by decide)) (by rfl) NL.g NL.F.kp NL.b .nil pass0 (pa_cons (pv 1) pa_nil)) (fun _ => rfl))) (pss_one (ps_ret pe_int)) pss_nil)
      (pss_cons (ps_for PassesOwn.never rfl (pi_enumA (by rfl) B.enumerate (pa_cons (pv 1) pa_nil)) (pg_tup rfl (pgs_cons (pg_name (i := 2) scFwc.nd rfl (Or.inl rfl)) (pgs_cons (pg_name (i := 3) scFwc.nd rfl (Or.inl rfl)) pgs_nil)))
        (pss_one (ps_if (pt_cmp (pc_isN (pe_call GS hr (by rfl) NS.g NS.F.kp NS.b .nil pass0 (pa_cons (pv 0) (pa_cons (pv 3) pa_nil)))) (by rfl)) (pss_one (ps_ret (pv 2))) pss_nil)))
      (pss_one (ps_ret pe_non))), ?_⟩
    have out : ∀ H', Same H H' → ∀ o, firstClause names d = o → Q (optV o) H' := fun H' e o h => by rw [← h]; exact k H' e
    cases hi : d.items? with
    | none =>
      refine ⟨_, rfl, S, d, v, rfl, hd, fun H1 s1 => ⟨_, rfl, ?_⟩⟩
      have e1 : d.isList = false := by unfold D.isList; rw [hi]; rfl
      rw [e1]
      refine iteT ?_
      exact out _ s1 (some 0) (by unfold firstClause; rw [hi])
    | some ds =>
      refine ⟨_, rfl, S, d, v, rfl, hd, fun H1 s1 => ⟨_, rfl, ?_⟩⟩
      have e1 : d.isList = true := by unfold D.isList; rw [hi]; rfl
      have e2 : firstClause names d = stopAt (clauseS names) ds () 0 := by unfold firstClause; rw [hi]
      have hsm := sm ds hi
      rw [e1]
      refine iteF ?_
      obtain ⟨a, us, rfl, hq, rr⟩ := (hd.same s1).seq (K := K) hi
      have hus : us.length = ds.length := rr.length
      refine ⟨_, rfl, a, us, rfl, for_enumA (Hb := H1) hq (fun i σ H' => ∃ (o2 o3 : Option V), optFold (clauseS names) (ds.take i) () = some () ∧
        σ = [some (.ref pl), some (.ref a), o2, o3] ∧ Same H1 H') ⟨none, none, rfl, rfl, Same.refl _⟩ (fun i σ H' _ ⟨_, _, _, _, h⟩ => h) ?_ ?_⟩
      · rintro i T x σ H' hx ⟨o2, o3, ho, rfl, sm'⟩ hT
        obtain ⟨dx, hdx, hrx⟩ := (rr.same sm').get hx
        have sT : Same H' (upd H' T (.tup [.int (i : Nat), x])) := Same.new hT
        have s2 := s1.trans (sm'.trans sT)
        refine ⟨T, _, rfl, SqT.of upd_same, rfl, ?_⟩
        refine ⟨_, _, rfl, _, _, rfl, rfl, ?_⟩
        refine ⟨_, rfl, _, rfl, S, dx, x, pl, names, rfl, s2 _ _ hpl, hrx.same sT, hsm dx (List.mem_of_getElem? hdx), fun H2 s3 hn => ?_, fun H2 r ls s3 hl hr2 => ?_⟩
        · refine ⟨_, rfl, ?_⟩
          rw [decide_eq_true rfl]
          refine iteT ⟨_, rfl, ?_⟩
          exact out _ (s2.trans s3) (some i) (by rw [e2, stopAt_some 0 ho hdx (by unfold clauseS; rw [hn]; rfl), Nat.zero_add])
        · refine ⟨_, rfl, ?_⟩
          obtain ⟨z, zs, rfl, _⟩ := hr2
          rw [decide_eq_false (fun q => nomatch q)]
          refine iteF ⟨_, _, ?_, rfl, sm'.trans (sT.trans s3)⟩
          rw [optFold_step ho hdx]
          unfold clauseS
          rw [hl]
          rfl
      · rintro σ H' ⟨o2, o3, ho, rfl, sm'⟩
        rw [hus, List.take_length] at ho
        exact out _ (s1.trans sm') none (by rw [e2]; exact stopAt_none 0 ho)
end
end Q1

set_option Elab.async false
set_option maxRecDepth 100000
set_option maxHeartbeats 4000000
namespace LamX
open PySem PySem.Spec PyProof.Rows L2
/-- a lambda of one parameter that captures names -/
structure LamP (sc scope : Scope) (x : Str) : Prop where
  kind : scope.kind = .function
  co : scope.isCoroutine = false
  gen : scope.isGenerator = false
  par : scope.names.lookup x = some .local
  nocell : ∀ y ∈ scope.names, y.2 ≠ .cell
  free : ∀ y ∈ scope.names, y.2 = .free → sc.names.lookup y.1 = some .cell ∨ sc.names.lookup y.1 = some .free
/-- what its body sees -/
structure LamSees (X : Cx) (scope : Scope) (x : Str) (σ : L2.St) (s : Shared) (env : Env) (u : Value) : Prop where
  scp : env.scope = scope
  loc : ∃ m, s.heap.Ns env.locals m ∧ m x = some u
  free : ∀ (i : Nat) (y : Str) (v : V), X.N[i]? = some y → σ[i]? = some (some v) → scope.names.lookup y = some .free → ∃ c w, env.cells.lookup y = some c ∧ s.heap.IsCell c (some w) ∧ RelV v w
theorem ExtN.seq {K : PySem.W.Frag} {H H' : Hp} {a : Addr} {xs : List V} (e : ExtN H H') (h : SqL K H a xs) : SqL K H' a xs := by
  rcases h with (h | ⟨o, h⟩) | h
  · exact .inl (.inl (e _ _ h (fun _ z => by cases z)))
  · exact .inl (.inr ⟨o, e _ _ h (fun _ z => by cases z)⟩)
  · exact .inr h
theorem vals_of_each {us : List Value} {vs : List V} (h : PySem.W.EachIs (fun u v => RelV v u) us vs) : Vals vs us := by
  induction h with
  | nil => exact .nil
  | cons r _ ih => exact .cons r ih
theorem each_of_vals : ∀ {vs : List V} {us : List Value}, Vals vs us → PySem.W.EachIs (fun u v => RelV v u) us vs
  | [], [], _ => .nil
  | v :: vs, u :: us, h => by
    cases h with
    | cons r t => exact .cons r (each_of_vals t)
  | [], u :: us, h => by cases h
  | v :: vs, [], h => by cases h
def tSortLam (K : PySem.W.Frag) (T : List (Addr × Str)) (ta : TA) (κ : L2.St → Hp → V → Int → Prop) : TE := fun σ H Q => ta σ H fun vs H1 => ∃ (a : Addr) (xs : List V) (k : V → Int), vs = [.ref a] ∧ SqL K H1 a xs ∧ xs.length ≤ 100000 ∧ Tabs T H1 ∧
  (∀ H2, ExtN H1 H2 → ∀ v ∈ xs, κ σ H2 v (k v)) ∧ ∀ H2 p, ExtN H1 H2 → Tabs T H2 → H2 p = none → Q (.ref p) (upd H2 p (.lst (xs.mergeSort fun x y => decide (k x ≤ k y))))
section
variable {X : Cx} {pins : List (Addr × Obj)} {σ : L2.St} {H : Hp} {s : Shared}
theorem lam_free {scope : Scope} {x : Str} {s1 : Shared} (I : Inv X pins σ H s) (L : LamP X.env.scope scope x) (kp : ∀ b o, s.heap.get? b = some o → s1.heap.get? b = some o) (i : Nat) (y : Str) (v : V) (e1 : X.N[i]? = some y) (e2 : σ[i]? = some (some v)) (k : scope.names.lookup y = some .free) :
    ∃ c w, (cloFrom X.env.cells scope.names []).lookup y = some c ∧ s1.heap.IsCell c (some w) ∧ RelV v w := by
  have hfree : ∀ z ∈ scope.names, z.2 = .free → ∃ c, X.env.cells.lookup z.1 = some c := fun z hz e => by
    rcases L.free z hz e with k | k
    · exact I.ok.has _ (.inl k)
    · exact I.ok.has _ (.inr k)
  have cm : ∀ {y c}, (cloFrom X.env.cells scope.names []).lookup y = some c → X.env.cells.lookup y = some c := fun {y c} e => by
    rcases cloFrom_mem (PySem.mem_of_lookup e) with hm | ⟨h1, h2⟩
    · cases hm
    · obtain ⟨c1, hc⟩ := hfree _ h1 rfl
      have hc : X.env.cells.lookup y = some c1 := hc
      have e2 : c = c1 := by
        rw [h2, hc] <;> rfl
      rw [e2]
      exact hc
  have hy : (y, NameKind.free) ∈ scope.names := PySem.mem_of_lookup k
  obtain ⟨c2, h2⟩ := mem_lookup (cloFrom_has (cells := X.env.cells) (acc := []) hy)
  obtain ⟨m, hn, hl⟩ := I.loc
  have hvis : Vis X.env.scope y := (L.free _ hy rfl).elim (fun k => .inr (.inl k)) (fun k => .inr (.inr k))
  obtain ⟨w', r, q⟩ := hl i y v e1 e2 hvis
  have c1 := cm h2
  rcases q with ⟨k', _⟩ | ⟨_, c3, e', z⟩
  · have k' : X.env.scope.names.lookup y = some .local := k'
    rcases L.free _ hy rfl with k2 | k2 <;> rw [show X.env.scope.names.lookup y = _ from k2] at k' <;> cases k'
  · rw [c1] at e'
    cases e'
    obtain ⟨o, ho, hd⟩ := z
    exact ⟨c2, w', h2, ⟨o, kp _ _ ho, hd⟩, r⟩
/-- sorted(e, key=lambda x: body) -/
theorem pe_sortLam {T : List (Addr × Str)} {c P : Addr} {e : Expr} {ta : TA} {x : Str} {params : Arguments} {body : Expr} {scope : Scope} {p lpos kpos pos : Pos} (κ : L2.St → Hp → V → Int → Prop)
    (hg : Gl X "sorted") (hm : X.mg "sorted" = none) (ha : PA X [e] ta) (TB : TabB X.base X.mg c P) (hcode : X.env.code = .ref c) (hmT : (P, X.env.qual ++ "<lambda>") ∈ T) (hu : ∀ p ∈ T, p.1 = P → p.2 = X.env.qual ++ "<lambda>")
    (hr : Room 1 X.A) (L : LamP X.env.scope scope x) (hdef : defaultsOf params X.env = ([], []))
    (hbind : ∀ (q : Str) (cl : List (Str × Addr)) (pm cv ctv u : Value), bindArgs (PySem.W.kla_fn "<lambda>" q params body scope cl pm cv ctv) ⟨[u], []⟩ = pure [(x, u)])
    (hbody : ∀ (A : Around) (σ : L2.St) (H : Hp) (v : V) (u : Value) (n : Int) (s : Shared) (env : Env), κ σ H v n → RelV v u → HOk X.prog X.w H s.heap → LamSees X scope x σ s env u → A.handled = none → A.units + 64 < cLine →
      wpAny (model X.prog X.w) A (eval body env) (fun r s' => ∃ t tk, r = .int n t ∧ s' = { s with toks := tk }) (fun _ _ => False) s)
    (he : backTo pos (starEach [e] X.env) = (false, eval e X.env) :: backTo pos (starEach [] X.env) := by rfl) (hpl : (backTo pos (starEach [e] X.env)).any (·.1) = false := by rfl) :
    PE X (.Call (.Name "sorted" p) [e] [⟨some "key", .Lambda params body scope lpos, kpos⟩] pos) (tSortLam X.K T ta κ) := by
  refine ⟨fun pins s σ H Q I h => ?_⟩
  refine wpAny_Call_Name_kw (ld_blt I hg hm PyProof.Rows.boot_sorted ?_ (by decide) (by decide))
  have hfree : ∀ z ∈ scope.names, z.2 = .free → ∃ c, X.env.cells.lookup z.1 = some c := fun z hz e => by
    rcases L.free z hz e with k | k
    · exact I.ok.has _ (.inl k)
    · exact I.ok.has _ (.inr k)
  refine PyProof.Rows.callWith_kw (thn (ha.run pos pins s σ H _ I h) fun us s1 ⟨vs, H1, I1, r1, q1⟩ => ?_) he hpl rfl rfl
  obtain ⟨a, xs, k, rfl, hq, hz, hT, hκ, q⟩ := q1
  show wpAny _ _ (evalAll [do let v ← eval (.Lambda params body scope lpos) X.env; standAt pos; pure v]) _ _ s1
  refine wpAny_evalAll_cons (wpAny_bind (lam_make2 I1 TB hcode hmT hu hT hdef hfree fun f c' pm' ctv H2 s2 I2 eN T2 hf hfn hfr hco => wpAny_bind (wpAny_standAt (wpAny_pure (wpAny_evalAll_nil ?_)))))
  cases r1 with
  | cons r rr =>
    cases rr
    cases r
    have hq2 : SqL X.K H2 a xs := eN.seq hq
    obtain ⟨its, rv, pl, _⟩ := I2.list hq2
    obtain ⟨⟨oc, vs, t, hoc, hdc, hvc⟩, _, _⟩ := I2.hok c' _ hco
    show wpAny _ _ (call (.builtin "sorted") [.ref a] [(Str.ofString "key", .ref f)]) _ _ s2
    have hun := hr.un
    refine PySem.W.sorted_key_data (R := fun u v => RelV v u) (bs := xs) (b := false) (f := .ref f) (fun v => .int (k v)) pl.isList (each_of_vals rv) (PySem.W.AllAlike.of fun _ _ => by simp [PySem.W.alike]) ?_ (Nat.le_trans hz (by decide)) (fun v _ => ?_) (ksk_s1 _ _) (fun _ => ksk_l1 _ _) (fun _ => ksk_t1 _ _) ?_ ?_
    · exact PySem.W.Sortable.others fun v => ⟨fun z => (nomatch z), fun _ z => (nomatch z)⟩
    · have hd : (PyData.int (k v)).depth = 0 := by simp [PyData.depth]
      omega
    · intro u v hR hx h tk kp
      have kp1 : ∀ b o, s2.heap.get? b = some o → h.get? b = some o := kp
      have rc : codeAny (model X.prog X.w) X.A.in1.in1 (.call (.ref f) ⟨[u], []⟩) (fun r s' => match r with | .ok (.ret v') => PySem.W.KeyPure (.int (k v)) { s2 with heap := h, toks := tk } v' s' | .ok _ => False | .error e => False) { s2 with heap := h, toks := tk } := by
        refine PySem.W.kla_callFunE (by show X.A.depth < recursionLimit; have := hr.dp; omega) (kp1 _ _ hf) rfl L.co L.gen rfl ⟨c', oc, vs, t, rfl, kp1 _ _ hoc, hdc, hvc⟩ ?_
        rw [hbind]
        refine wpAny_pure (wpAny_newFunctionEnv L.nocell (fun y hy => ?_) (fun h₁ hns hsb => ⟨?_, ?_⟩) L.kind)
        · have : y = (x, u) := by simpa using hy
          rw [this]
          exact L.par
        · have lim : s2.heap.NoLimit := I2.nolimit
          exact (lim.keeps kp1).fresh _ hsb
        · have kp2 : ∀ b o, h.get? b = some o → h₁.get? b = some o := fun b o e => hsb.extBut b o (Nat.ne_of_lt (Heap.lt_size e)) (Heap.get?_push_of_some _ e)
          have kp3 : ∀ b o, s2.heap.get? b = some o → h₁.get? b = some o := fun b o e => kp2 b o (kp1 b o e)
          show codeAny _ _ (.expr body _) _ _
          refine PySem.W.kla_codeExpr (wpAny_mono (hbody _ σ H2 v u (k v) _ _ (hκ H2 eN v hx) hR (I2.hok.kept kp3) ⟨rfl, ⟨_, hns, ?_⟩, fun i y v' e1 e2 e3 => lam_free I2 L kp3 i y v' e1 e2 e3⟩ ?_ ?_) (fun w s'' hw => ?_) fun _ _ z => z.elim)
          · simp
          · exact hr.hd
          · show X.A.units + 1 + 1 + 3 + 64 < cLine
            omega
          · obtain ⟨t', tk', rfl, rfl⟩ := hw
            exact ⟨h₁, tk', rfl, kp2, .int _ _⟩
      refine wpAny_call (codeAny_mono rc fun r s' hq => ?_)
      cases r with
      | error e => exact hq.elim
      | ok fl =>
        cases fl with
        | ret w => exact hq
        | next => exact hq.elim
        | brk => exact hq.elim
        | cont => exact hq.elim
    · intro out cn h' tk kp hfr2 hget hlen heach
      rw [PySem.W.dataLe_int] at heach
      have rv2 := vals_of_each heach
      have hnew : H2 (s2.heap.objs.size + 1) = none := I2.hok.fresh (Nat.le_succ _)
      have I3 : L2.Inv X pins σ (upd H2 (s2.heap.objs.size + 1) (.lst (xs.mergeSort fun x y => decide (k x ≤ k y)))) { s2 with heap := h', toks := tk } :=
        I2.laid (t' := tk) kp (Nat.le_succ _) ⟨by rw [List.length_mergeSort]; exact Nat.le_trans hz (by decide), out, cn, rv2, hget⟩
      exact ⟨.ref (s2.heap.objs.size + 1), _, I3, rfl, q H2 _ eN T2 hnew⟩
end
end LamX
namespace Q1
open PySem L2 LamX PyProof.Rows
section
variable {P : Program} {w : World} {K : PySem.W.Frag} {mg : Str → Option Value} {base : Heap}
/-! ### in_marks_order -/
abbrev sOrd : Stmt := top 15
abbrev nOrd : List Str := ["places", "literals"]
theorem scOrd : FnScope nOrd ["places", "literals"] (defScope sOrd) := ⟨rfl, rfl, rfl, by decide +kernel, rfl, by decide +kernel, by decide +kernel⟩
/-- the key of a literal: its mark's place -/
def keyPl (σ : L2.St) (H : Hp) (v : V) (n : Int) : Prop := ∃ (pl t : Addr) (names : List Str) (m : Str) (b : Bool), σ[0]? = some (some (.ref pl)) ∧ H pl = some (.dK (placesK names)) ∧ v = .ref t ∧ H t = some (.tup [.str m, .bl b]) ∧ m ∈ names ∧ n = ((names.idxOf m : Nat) : Int)
theorem body_places {X : Cx} {scope : Scope} {p1 p2 p3 p4 p5 : Pos} {j : Nat} (hN : X.N[0]? = some ("places" : Str)) (hk : scope.kind = .function) (hf : scope.names.lookup ("places" : Str) = some .free) (hl : scope.names.lookup ("literal" : Str) = some .local)
    (A : Around) (σ : L2.St) (H : Hp) (v : V) (u : Value) (n : Int) (s : Shared) (env : Env) (hκ : keyPl σ H v n) (rv : RelV v u) (hok : HOk X.prog X.w H s.heap) (sees : LamSees X scope "literal" σ s env u) (hA : A.handled = none) (hu : A.units + 64 < cLine) :
    wpAny (model X.prog X.w) A (eval (.Subscript (.Name "places" p1) (.Subscript (.Name "literal" p2) (.Constant (.int 0) j p3) p4) p5) env) (fun r s' => ∃ t tk, r = .int n t ∧ s' = { s with toks := tk }) (fun _ _ => False) s := by
  obtain ⟨pl, t, names, m, b, hs, hpl, rfl, ht, hm, rfl⟩ := hκ
  cases rv
  obtain ⟨esc, ⟨mm, hns, hmm⟩, hfr⟩ := sees
  obtain ⟨c, w', hc, hcell, rw'⟩ := hfr 0 _ _ hN hs hf
  cases rw'
  have hk' : env.scope.kind = .function := by rw [esc]; exact hk
  refine subD_of PySem.F.slot_dict_getitem.lookup (fun _ _ => rfl) (wpAny_Name (wpAny_loadName_free hk' (by show env.scope.names.lookup _ = _; rw [esc]; exact hf) hc hcell ?_))
  refine Subscript_ (wpAny_Name (wpAny_loadName_local hk' (by show env.scope.names.lookup _ = _; rw [esc]; exact hl) hns hmm ?_))
  refine wpAny_Constant_int ?_
  obtain ⟨_, its, rvs, pl2⟩ := (show ObjOk X.prog X.w H s.heap t (.tup [.str m, .bl b]) from hok t _ ht)
  obtain ⟨u0, hu0, ru0⟩ := rvs.get (i := 0) (x := .str m) rfl
  obtain ⟨tm, rfl⟩ := (show ∃ tm, u0 = Value.str m tm from ru0)
  have hlen := rvs.length
  obtain ⟨hz, hsm, es, rel, dd⟩ := (show ObjOk X.prog X.w H s.heap pl (.dK (placesK names)) from hok pl _ hpl)
  have hv := placesK_at hm
  refine subscriptTail_builtinR (x := .str m tm) (s := { s with toks := s.toks + 1 }) (show Shared.TypeIs { s with toks := s.toks + 1 } (.ref t) "tuple" from pl2.typeIs) slot_tuple_getitem.lookup
    (getItem_tuple (j := 0) (Q := fun r s' => r = .str m tm ∧ _) pl2 (by omega) (by omega) (by rw [List.size_toArray, ← hlen]; rfl) (by simpa using hu0) ⟨rfl, ?_⟩) rfl
  obtain ⟨w', hw, rw2⟩ := RelO.some_of (v := .int ((names.idxOf m : Nat) : Int)) (o := valueAt es (Sum.inr m)) (by rw [← hv]; exact rel.val (Sum.inr m))
  obtain ⟨t', rfl⟩ := (show ∃ t', w' = Value.int ((names.idxOf m : Nat) : Int) t' from rw2)
  exact ⟨show Shared.TypeIs { s with toks := s.toks + 1 } (.ref pl) "dict" from dd.typeIs, wpAny_getItem_of (s := { s with toks := s.toks + 1 }) (kV_is (k := Sum.inr m) ⟨tm, rfl⟩) dd.mapOf hw ⟨t', _, rfl, rfl⟩⟩
end
end Q1

set_option Elab.async false
set_option maxRecDepth 100000
set_option maxHeartbeats 4000000
namespace Q1
open PySem L2 LamX
/-- a def of the top that makes lambdas: its code object is known -/
structure FunC (K : PySem.W.Frag) (x qual : Str) (st : Stmt) (f : Addr) (fd : FuncData) (c : Addr) : Prop where
  ex : ∃ (oc : Value) (od : Option Addr) (kV doc pm : Value) (an : Option Addr) (ct : Value) (osl : Array (Option Value)),
    fd = PySem.W.fnOf x qual (defArgs st) (defBody st) (defScope st) .none kV doc pm an (.ref c) ct ∧ K.lookup f = some ⟨oc, od, .func fd, osl⟩ ∧ PySem.W.codeIn K (.ref c) qual = true
  kp : PySem.W.keepIn K (.ref f) = true
theorem FunC.toFun {K : PySem.W.Frag} {x qual : Str} {st : Stmt} {f : Addr} {fd : FuncData} {c : Addr} (F : FunC K x qual st f fd c) : Fun K x qual st f fd := by
  obtain ⟨oc, od, kV, doc, pm, an, ct, osl, h⟩ := F.ex
  exact ⟨⟨oc, od, kV, doc, pm, an, .ref c, ct, osl, h⟩, F.kp⟩
theorem FunC.ok {P : Program} {w : World} {K : PySem.W.Frag} {mg : Str → Option Value} {base : Heap} {x qual : Str} {st : Stmt} {f : Addr} {fd : FuncData} {c : Addr} {N ps : List Str} {k : Nat} {sp : Sp} (F : FunC K x qual st f fd c) (S : FnScope N ps (defScope st)) (len : ∀ vs H Q E, sp vs H Q E → vs.length = ps.length)
    (hbody : ∀ (A : Around) (outer : List Env) (s : Shared) (H : Hp) (vs : List V) (Q : VK) (E : XK), Room k (A.deeper (PyProof.Rows.envOfC qual (defScope st) s.heap.objs.size f (.ref c))) → sp vs H Q E →
      ∃ t, PSs (cxOf CX0 P w K mg base N qual (defScope st) f (.ref c) A outer s H E).nox (defBody st) t ∧ t { nx := fun _ H' => Q .non H', rt := Q } (L2.start N vs) H) : FnOk P w K mg base CX0 (k + 1) f fd ps sp := by
  obtain ⟨oc, od, kV, doc, pm, an, ct, osl, rfl, lk, hcd⟩ := F.ex
  refine fn_of lk hcd S len fun A outer s H vs Q E hr hsp => ?_
  obtain ⟨t, h, q⟩ := hbody A outer s H vs Q E hr hsp
  exact ⟨t, h.nox, q⟩
structure DnC (K : PySem.W.Frag) (mg : Str → Option Value) (x : Str) (st : Stmt) (ps : List Str) where
  f : Addr
  fd : FuncData
  c : Addr
  t : Addr
  F : FunC K x x st f fd c
  b : Binds K fd ps []
  g : mg x = some (.ref f)
/-- no known object that is no table -/
def NewN (H : Hp) : Addr → Prop := fun a => ∀ o, H a = some o → ∃ ps, o = .tbl ps
theorem newN_of {H H1 : Hp} {p : Addr} (e : ExtN H H1) (h : H1 p = none) : NewN H p := fun o q => by
  by_cases z : ∃ ps, o = .tbl ps
  · exact z
  · have := e p o q (fun ps x => z ⟨ps, x⟩)
    rw [h] at this
    cases this
theorem NewN.back {H H1 : Hp} (e : ExtN H H1) : ∀ a, NewN H1 a → NewN H a := fun a n o q => by
  by_cases z : ∃ ps, o = .tbl ps
  · exact z
  · exact n o (e a o q (fun ps x => z ⟨ps, x⟩))
theorem stayN {S : Addr → Prop} {H H' : Hp} (h : ExtN H H') : Stay S H H' := fun a o e n => h a o e (fun ps z => by
  subst z
  rcases n with ⟨_, q, _⟩ | ⟨_, q⟩ | q <;> cases q)
theorem Rep.extN {S : Addr → Prop} {H H' : Hp} {d : D} {v : V} (h : Rep S H d v) (e : ExtN H H') : Rep S H' d v := Rep.mono (fun _ s => s) (stayN e) h
theorem Reps.extN {S : Addr → Prop} {H H' : Hp} {d : List D} {v : List V} (h : Reps S H d v) (e : ExtN H H') : Reps S H' d v := Reps.mono (fun _ s => s) (stayN e) h
theorem extN_of {H H' : Hp} (e : Same H H') : ExtN H H' := fun b o h _ => e b o h
/-- the literal that stands at a value -/
def litAt (H : Hp) : V → Str × Bool
  | .ref t => match H t with
    | some (.tup [.str m, .bl b]) => (m, b)
    | _ => ("", false)
  | _ => ("", false)
theorem reps_lits {S : Addr → Prop} {H : Hp} : ∀ {ls : List (Str × Bool)} {vs : List V}, Reps S H (ls.map litD) vs → vs.map (litAt H) = ls ∧ ∀ v ∈ vs, ∃ t, v = .ref t ∧ H t = some (.tup [.str (litAt H v).1, .bl (litAt H v).2])
  | [], vs, h => by
    cases (show vs = [] from h)
    exact ⟨rfl, fun v hv => by simp at hv⟩
  | l :: ls, vs, h => by
    obtain ⟨v, r, rfl, ⟨t, us, rfl, ht, r2⟩, h2⟩ := h
    obtain ⟨u1, r3, rfl, h1, u2, r4, rfl, h3, rfl⟩ := r2
    cases (show u1 = .str l.1 from h1)
    cases (show u2 = .bl l.2 from h3)
    have e : litAt H (.ref t) = l := by
      show (match H t with | some (.tup [.str m, .bl b]) => (m, b) | _ => ("", false)) = l
      rw [ht]
    obtain ⟨i1, i2⟩ := reps_lits h2
    refine ⟨by rw [List.map_cons, e, i1], fun v hv => ?_⟩
    rcases List.mem_cons.mp hv with rfl | hv
    · exact ⟨t, rfl, by rw [e]; exact ht⟩
    · exact i2 v hv
theorem reps_of {S : Addr → Prop} {H : Hp} {f : V → Str × Bool} : ∀ {vs : List V}, (∀ v ∈ vs, ∃ t, v = .ref t ∧ H t = some (.tup [.str (f v).1, .bl (f v).2])) → Reps S H ((vs.map f).map litD) vs
  | [], _ => rfl
  | v :: vs, h => by
    obtain ⟨t, e, ht⟩ := h v List.mem_cons_self
    exact ⟨v, vs, rfl, ⟨t, _, e, ht, ⟨_, _, rfl, rfl, _, _, rfl, rfl, rfl⟩⟩, reps_of fun u hu => h u (List.mem_cons_of_mem _ hu)⟩
def placeLe (names : List Str) (x y : Str × Bool) : Bool := decide (((names.idxOf x.1 : Nat) : Int) ≤ ((names.idxOf y.1 : Nat) : Int))
def sortLits (names : List Str) (ls : List (Str × Bool)) : List (Str × Bool) := ls.mergeSort (placeLe names)
section
variable {P : Program} {w : World} {K : PySem.W.Frag} {mg : Str → Option Value} {base : Heap}
def spOrd (T : List (Addr × Str)) : Sp := fun vs H Q _ => ∃ (S : Addr → Prop) (ls : List (Str × Bool)) (v : V) (pl : Addr) (names : List Str), vs = [.ref pl, v] ∧ H pl = some (.dK (placesK names)) ∧ Rep S H (litsD ls) v ∧ (∀ l ∈ ls, l.1 ∈ names) ∧ ls.length ≤ 1000 ∧ Tabs T H ∧
  ∀ H' r, ExtN H H' → Tabs T H' → Rep (NewN H) H' (litsD (sortLits names ls)) r → Q r H'
theorem ok_ord {T : List (Addr × Str)} (B : Bt mg) (N : DnC K mg "in_marks_order" sOrd ["places", "literals"]) (TB : TabB base mg N.c N.t) (hmT : (N.t, ("in_marks_order.<locals>.<lambda>" : Str)) ∈ T) (hu : ∀ p ∈ T, p.1 = N.t → p.2 = "in_marks_order.<locals>.<lambda>") :
    FnOk P w K mg base CX0 2 N.f N.fd ["places", "literals"] (spOrd T) := by
  refine N.F.ok scOrd (fun vs H Q E h => ?_) (fun A outer s H vs Q E hr h => ?_)
  · obtain ⟨S, ls, v, pl, names, rfl, _⟩ := h
    rfl
  · obtain ⟨S, ls, v, pl, names, rfl, hpl, hd, hin, hn, hT, k⟩ := h
    refine ⟨_, pss_one (ps_ret (pe_sortLam (T := T) keyPl (by rfl) B.sorted (pa_cons (pv 1) pa_nil) TB rfl hmT hu hr ⟨rfl, rfl, rfl, by rfl, by decide +kernel, (by show ∀ (y : Str × NameKind), y ∈ _ → y.2 = NameKind.free → (defScope sOrd).names.lookup y.1 = some .cell ∨ (defScope sOrd).names.lookup y.1 = some .free; decide +kernel)⟩ rfl (fun q cl pm cv ctv u => by rfl)
      (body_places rfl rfl (by rfl) (by rfl)))), ?_⟩
    obtain ⟨a, us, rfl, sa, ha, r⟩ := hd
    obtain ⟨e1, e2⟩ := reps_lits r
    have hlen : us.length = ls.length := by rw [← e1, List.length_map]
    have hmem : ∀ v ∈ us, litAt H v ∈ ls := fun v hv => by rw [← e1]; exact List.mem_map_of_mem hv
    refine ⟨_, rfl, a, us, (fun v => ((names.idxOf (litAt H v).1 : Nat) : Int)), rfl, SqL.of ha, by rw [hlen]; omega, hT, fun H2 e3 v hv => ?_, fun H2 p e3 T2 hp => ?_⟩
    · obtain ⟨t, ev, ht⟩ := e2 v hv
      exact ⟨pl, t, names, _, _, rfl, e3 _ _ hpl (fun _ z => nomatch z), ev, e3 _ _ ht (fun _ z => nomatch z), hin _ (hmem v hv), rfl⟩
    · have e4 : Same H2 (upd H2 p (.lst (us.mergeSort fun x y => decide (((names.idxOf (litAt H x).1 : Nat) : Int) ≤ ((names.idxOf (litAt H y).1 : Nat) : Int))))) := Same.new hp
      refine k _ _ (e3.trans (extN_of e4)) (T2.ext e4) ⟨p, _, rfl, newN_of e3 hp, upd_same, ?_⟩
      have e5 : sortLits names ls = (us.mergeSort fun x y => decide (((names.idxOf (litAt H x).1 : Nat) : Int) ≤ ((names.idxOf (litAt H y).1 : Nat) : Int))).map (litAt H) := by
        unfold sortLits
        rw [← e1]
        exact (List.map_mergeSort (f := litAt H) (s := placeLe names) (fun _ _ _ _ => rfl)).symm
      rw [e5]
      refine reps_of fun v hv => ?_
      obtain ⟨t, ev, ht⟩ := e2 v (List.mem_mergeSort.mp hv)
      exact ⟨t, ev, e4 _ _ (e3 _ _ ht (fun _ z => nomatch z))⟩
end
end Q1

set_option Elab.async false
set_option maxRecDepth 100000
set_option maxHeartbeats 4000000
namespace Q1
open PySem L2 LamX
theorem extN_seqL {K : PySem.W.Frag} {H H' : Hp} {a : Addr} {xs : List V} (e : ExtN H H') (h : SqL K H a xs) : SqL K H' a xs := e.seq h
theorem extN_seqT {K : PySem.W.Frag} {H H' : Hp} {a : Addr} {xs : List V} (e : ExtN H H') (h : SqT K H a xs) : SqT K H' a xs := by
  rcases h with (h | ⟨o, h⟩) | h
  · exact .inl (.inl (e _ _ h (fun _ z => by cases z)))
  · exact .inl (.inr ⟨o, e _ _ h (fun _ z => by cases z)⟩)
  · exact .inr h
/-- a walk over a list or a tuple that stands in what stays -/
theorem seq_walk {K : PySem.W.Frag} {a : Addr} {xs : List V} {H1 Hb : Hp} {R : It → Hp → Prop} (hb : ExtN Hb H1) (hq : SqL K Hb a xs ∨ SqT K Hb a xs) (h : ∀ (J : It) (G : Hp → Prop), Walk J xs.length G (YAt xs) → (∀ H', ExtN Hb H' → G H') → R J H1) :
    ((∃ xs, SqL K H1 a xs) ∧ R (Itl K a) H1) ∨ ((∃ xs, SqT K H1 a xs) ∧ R (Itt K a) H1) := by
  rcases hq with hq | hq
  · exact .inl ⟨⟨xs, extN_seqL hb hq⟩, h _ _ walk_list fun H' e => extN_seqL e hq⟩
  · exact .inr ⟨⟨xs, extN_seqT hb hq⟩, h _ _ walk_tup fun H' e => extN_seqT e hq⟩
/-- a comprehension over a list or a tuple -/
theorem lc_seq {K : PySem.W.Frag} {a : Addr} {xs : List V} {H1 Hb : Hp} {g : TG} {tt : TT} {te : TE} {vs : List Nat} {σ : L2.St} {Qd : Addr → Hp → Prop} (hb : ExtN Hb H1) (hq : SqL K Hb a xs ∨ SqT K Hb a xs)
    (Pv : Addr → Nat → Hp → Prop) (h0 : ∀ D, H1 D = none → Pv D 0 (upd H1 D (.lst []))) (hS : ∀ D i H', Pv D i H' → ExtN Hb H')
    (hs : ∀ D, H1 D = none → ∀ i x H, xs[i]? = some x → Pv D i H → g x (wipe σ vs) H fun σ2 H2 => wipe σ2 vs = wipe σ vs ∧ tt σ2 H2 fun b H3 =>
      if b = true then te σ2 H3 fun y H4 => ∃ acc, H4 D = some (.lst acc) ∧ acc.length < sizeLine ∧ Pv D (i + 1) (upd H4 D (.lst (acc ++ [y]))) else Pv D (i + 1) H3) (hd : ∀ D, H1 D = none → ∀ H, Pv D xs.length H → Qd D H) :
    ((∃ xs, SqL K H1 a xs) ∧ (fun (J : It) (H1 : Hp) => ∀ D, H1 D = none → ∃ W : Nat → Nat → Hp → Prop, (∃ m, W 0 m (upd H1 D (.lst []))) ∧ ∀ i m H, W i m H →
      (J.stop i H ∧ Qd D H) ∨ (J.go i H ∧ ∃ Nx : Hp → Prop, (∀ H', Nx H' → ∃ m', m' < m ∧ W (i + 1) m' H') ∧ ∀ x H', J.yld i H x H' → g x (wipe σ vs) H' fun σ2 H2 => wipe σ2 vs = wipe σ vs ∧ tt σ2 H2 fun b H3 =>
        if b = true then te σ2 H3 fun y H4 => ∃ acc, H4 D = some (.lst acc) ∧ acc.length < sizeLine ∧ Nx (upd H4 D (.lst (acc ++ [y]))) else Nx H3)) (Itl K a) H1) ∨ ((∃ xs, SqT K H1 a xs) ∧ (fun (J : It) (H1 : Hp) => ∀ D, H1 D = none → ∃ W : Nat → Nat → Hp → Prop, (∃ m, W 0 m (upd H1 D (.lst []))) ∧ ∀ i m H, W i m H →
      (J.stop i H ∧ Qd D H) ∨ (J.go i H ∧ ∃ Nx : Hp → Prop, (∀ H', Nx H' → ∃ m', m' < m ∧ W (i + 1) m' H') ∧ ∀ x H', J.yld i H x H' → g x (wipe σ vs) H' fun σ2 H2 => wipe σ2 vs = wipe σ vs ∧ tt σ2 H2 fun b H3 =>
        if b = true then te σ2 H3 fun y H4 => ∃ acc, H4 D = some (.lst acc) ∧ acc.length < sizeLine ∧ Nx (upd H4 D (.lst (acc ++ [y]))) else Nx H3)) (Itt K a) H1) := by
  rcases hq with hq | hq
  · refine .inl ⟨⟨xs, extN_seqL hb hq⟩, fun D hD => lc_it walk_list (Pv D) (h0 D hD) (fun i H' _ p => extN_seqL (hS D i H' p) hq) (fun i x H' H2 hi p y => ?_) (hd D hD)⟩
    obtain ⟨rfl, hx⟩ := y
    exact hs D hD i x _ hx p
  · refine .inr ⟨⟨xs, extN_seqT hb hq⟩, fun D hD => lc_it walk_tup (Pv D) (h0 D hD) (fun i H' _ p => extN_seqT (hS D i H' p) hq) (fun i x H' H2 hi p y => ?_) (hd D hD)⟩
    obtain ⟨rfl, hx⟩ := y
    exact hs D hD i x _ hx p
theorem ExtN.at' {H H1 : Hp} {D : Addr} {o : HO} (h : ExtN H H1) (hD : H D = none) : ExtN H (upd H1 D o) := fun a u e n => by
  rw [upd_ne (ne_of_none e hD)]
  exact h a u e n
theorem tabs_upd {T : List (Addr × Str)} {H : Hp} {p : Addr} {o u : HO} (h : Tabs T H) (hp : H p = some u) (h1 : ∀ ps, u ≠ .tbl ps) (h2 : ∀ q, u ≠ CodeO p q) : Tabs T (upd H p o) := fun x hx => by
  obtain ⟨ps, a1, a2, a3⟩ := h x hx
  refine ⟨ps, ?_, a2, fun pos cv hc => ?_⟩
  · rw [upd_ne (ne_of a1 hp (fun z => h1 ps z.symm))]
    exact a1
  · obtain ⟨c, b1, b2⟩ := a3 pos cv hc
    refine ⟨c, b1, ?_⟩
    have : c ≠ p := fun z => by
      subst z
      rw [hp] at b2
      exact h2 _ (Option.some.inj b2)
    rw [upd_ne this]
    exact b2
theorem tabs_lst {T : List (Addr × Str)} {H : Hp} {p : Addr} {o : HO} {vs : List V} (h : Tabs T H) (hp : H p = some (.lst vs)) : Tabs T (upd H p o) := tabs_upd h hp (fun _ z => by cases z) (fun _ z => by unfold CodeO at z; cases z)
theorem tabs_new {T : List (Addr × Str)} {H : Hp} {p : Addr} {o : HO} (h : Tabs T H) (hp : H p = none) : Tabs T (upd H p o) := h.ext (Same.new hp)
section
variable {P : Program} {w : World} {K : PySem.W.Frag} {mg : Str → Option Value} {base : Heap}
/-! ### ordered_clauses -/
abbrev sOcl : Stmt := top 23
abbrev nOcl : List Str := ["places", "clauses", "clause"]
theorem scOcl : FnScope nOcl ["places", "clauses"] (defScope sOcl) := ⟨rfl, rfl, rfl, by decide +kernel, rfl, by decide +kernel, by decide +kernel⟩
def clausesD (cs : List (List (Str × Bool))) : D := .lst (cs.map litsD)
def spOcl (T : List (Addr × Str)) : Sp := fun vs H Q _ => ∃ (S : Addr → Prop) (d : D) (ds : List D) (cs : List (List (Str × Bool))) (v : V) (pl : Addr) (names : List Str), vs = [.ref pl, v] ∧ H pl = some (.dK (placesK names)) ∧ Rep S H d v ∧ d.items? = some ds ∧ smallL ds ∧ ds.length ≤ 1000 ∧
  ds.map (litsOf names) = cs.map some ∧ (∀ c ∈ cs, (∀ l ∈ c, l.1 ∈ names) ∧ c.length ≤ 1000) ∧ Tabs T H ∧ ∀ H' r, ExtN H H' → Tabs T H' → Rep (NewN H) H' (clausesD (cs.map (sortLits names))) r → Q r H'
theorem ok_ocl {T : List (Addr × Str)} (B : Bt mg) (N : Dn K mg "ordered_clauses" sOcl ["places", "clauses"]) (NO : DnC K mg "in_marks_order" sOrd ["places", "literals"]) (NL : Dn K mg "is_list" sIsList ["thing"]) (NT : Dn K mg "is_tuple_of" sIsTupleOf ["thing", "length"]) (NS : Dn K mg "literal_list" sLits ["places", "thing"])
    (TB : TabB base mg NO.c NO.t) (hmT : (NO.t, ("in_marks_order.<locals>.<lambda>" : Str)) ∈ T) (hu : ∀ p ∈ T, p.1 = NO.t → p.2 = "in_marks_order.<locals>.<lambda>") : FnOk P w K mg base CX0 4 N.f N.fd ["places", "clauses"] (spOcl T) := by
  have GO : FnOk P w K mg base CX0 2 NO.f NO.fd ["places", "literals"] (spOrd T) := ok_ord B NO TB hmT hu
  have GS : FnOk P w K mg base CX0 3 NS.f NS.fd ["places", "thing"] spLits := ok_lits B NS NL NT
  refine N.F.ok scOcl (fun vs H Q E h => ?_) (fun cdv A outer s H vs Q E hr h => ?_)
  · obtain ⟨S, d, ds, cs, v, pl, names, rfl, _⟩ := h
    rfl
  · obtain ⟨S, d, ds, cs, v, pl, names, rfl, hpl, hd, hi, hsm, hz, hcs, hok, hT, k⟩ := h
    refine ⟨_, pss_one (ps_ret (pe_lc (own := [("clause", 2)]) (g := gName 2) (tt := tYes) rfl scOcl.nd (pi_seq (pv 1)) (blkOk_by (own := [("clause", 2)]) (N := nOcl) (sc := defScope sOcl) (by decide +kernel)) (fun _ _ _ _ _ => pg_name (i := 2) scOcl.nd rfl (Or.inl rfl)) (fun _ _ _ _ _ => pts_nil)
      (fun _ _ _ _ _ => pe_call GO (hr.mono (by decide)) (by rfl) NO.g NO.F.kp NO.b .nil pass0 (pa_cons (pv 0) (pa_cons (pe_call GS hr (by rfl) NS.g NS.F.kp NS.b .nil pass0 (pa_cons (pv 0) (pa_cons (pv 2) pa_nil))) pa_nil))))), ?_⟩
    obtain ⟨a, us, rfl, hq, rr⟩ := hd.seq (K := K) hi
    have hus : us.length = ds.length := rr.length
    have hcl : ds.length = cs.length := by
      have := congrArg List.length hcs
      rw [List.length_map, List.length_map] at this
      exact this
    refine ⟨_, rfl, a, rfl, lc_seq (ExtN.refl H) hq (fun D0 i H' => ∃ acc, H' D0 = some (.lst acc) ∧ ExtN H H' ∧ Tabs T H' ∧ acc.length = i ∧ Reps (fun b => NewN H b ∧ b ≠ D0) H' (((cs.take i).map (sortLits names)).map litsD) acc)
      (fun D0 hD => ⟨[], upd_same, ExtN.of (Same.new hD), tabs_new hT hD, rfl, rfl⟩) (fun D0 i H' ⟨_, _, e, _⟩ => e) ?_ ?_⟩
    · rintro D0 hD i x H2 hx ⟨acc, hacc, eN, T1, hl, hr2⟩
      have hsl : i < us.length := (List.getElem?_eq_some_iff.mp hx).1
      obtain ⟨dx, hdx, hrx⟩ := (rr.extN eN).get hx
      obtain ⟨c, hc⟩ : ∃ c, cs[i]? = some c := ⟨cs[i]'(by omega), by simp⟩
      have hlc : litsOf names dx = some c := by
        have := congrArg (fun l => l[i]?) hcs
        simp only [List.getElem?_map, hdx, hc, Option.map_some] at this
        exact Option.some.inj this
      obtain ⟨hcn, hcl2⟩ := hok c (List.mem_of_getElem? hc)
      refine ⟨rfl, ?_⟩
      refine ⟨_, rfl, _, rfl, _, rfl, S, dx, x, pl, names, rfl, eN _ _ hpl (fun _ z => nomatch z), hrx, hsm dx (List.mem_of_getElem? hdx), fun H3 s3 hn => (by rw [hlc] at hn; cases hn), fun H3 r ls s3 hls hr3 => ?_⟩
      rw [hlc] at hls
      cases hls
      have e3 : ExtN H2 H3 := extN_of s3
      refine ⟨_, c, r, pl, names, rfl, (eN.trans e3) _ _ hpl (fun _ z => nomatch z), hr3, hcn, hcl2, T1.ext s3, fun H4 r2 e4 T4 hr4 => ?_⟩
      have hacc4 : H4 D0 = some (.lst acc) := e4 _ _ (s3 _ _ hacc) (fun _ z => nomatch z)
      have nD3 : ¬ NewN H3 D0 := fun n => by
        obtain ⟨ps, z⟩ := n _ (s3 _ _ hacc)
        cases z
      refine ⟨acc, hacc4, ?_, acc ++ [r2], upd_same, ?_, tabs_lst T4 hacc4, ?_, ?_⟩
      · rw [hl]
        exact Nat.lt_of_lt_of_le hsl (Nat.le_trans (by omega : us.length ≤ 1000) (by decide))
      · exact ExtN.at' (eN.trans (e3.trans e4)) hD
      · rw [List.length_append, hl]
        rfl
      · have et : (cs.take (i + 1)) = cs.take i ++ [c] := by rw [List.take_add_one, hc]; rfl
        rw [et, List.map_append, List.map_append]
        have st : ∀ o, Stay (fun b => NewN H b ∧ b ≠ D0) H4 (upd H4 D0 o) := fun o => stay_upd hacc4 (nd_lst (fun z => z.2 rfl))
        refine Reps.append ?_ (Reps.one ?_)
        · exact Reps.mono (fun _ z => z) (Stay.trans (stayN (e3.trans e4)) (st _)) hr2
        · refine Rep.mono (S := fun b => NewN H b ∧ b ≠ D0) (fun _ z => z) (st _) (Rep.mono (fun b n => ⟨?_, fun z => ?_⟩) (fun _ _ e _ => e) hr4)
          · exact (n.back (eN.trans e3) : NewN H b)
          · subst z
            exact nD3 n
    · rintro D0 hD H' ⟨acc, hacc, eN, T1, hl, hr2⟩
      rw [hus, hcl, List.take_length] at hr2
      exact k _ _ eN T1 ⟨D0, acc, rfl, newN_of (ExtN.refl H) hD, hacc, Reps.mono (fun _ z => z.1) (fun _ _ e _ => e) hr2⟩
end
end Q1

set_option Elab.async false
set_option maxRecDepth 100000
set_option maxHeartbeats 4000000
namespace Q1
open PySem L2 LamX
/-! ### the errors -/
structure Er (K : PySem.W.Frag) (mg : Str → Option Value) (x q : Str) (st : Stmt) where
  C : Addr
  fI : Addr
  fd : FuncData
  F : Fun K "__init__" q st fI fd
  b : Binds K fd ["self", "index"] []
  T : OexC K C
  iC : PySem.W.findIn K (.ref C) "__init__" = some (some (.ref fI))
  tI : PySem.W.typeIn K (.ref fI) = some (.type "function")
  g : mg x = some (.ref C)
  no : PySem.W.findIn K (.ref C) "index" = some none
abbrev sErr (i : Nat) : Stmt := inClass (top i) 0
def spErr (C : Addr) : Sp := fun vs H Q _ => ∃ (a : Addr) (y : V), vs = [.ref a, y] ∧ H a = some (exo a C none) ∧ ∀ dx, H dx = none → dx ≠ a → Q .non (upd (upd H dx (exd dx [("index", y)])) a (exo a C (some dx)))
section
variable {P : Program} {w : World} {K : PySem.W.Frag} {mg : Str → Option Value} {base : Heap}
theorem scErr2 : FnScope ["self", "index"] ["self", "index"] (defScope (sErr 2)) := ⟨rfl, rfl, rfl, by decide +kernel, rfl, by decide +kernel, by decide +kernel⟩
theorem ok_err2 (R : Er K mg "BadMarks" "BadMarks.__init__" (sErr 2)) : FnOk P w K mg base (L2.CX P w) 1 R.fI R.fd ["self", "index"] (spErr R.C) := by
  refine R.F.okX scErr2 (fun vs H Q E h => ?_) (fun cdv A outer s H vs Q E hr h => ?_)
  · obtain ⟨a, y, rfl, _⟩ := h
    rfl
  · obtain ⟨a, y, rfl, ha, k⟩ := h
    exact ⟨_, pss_one (ps_ost (pv 0) (pv 1)), ⟨y, rfl, .ref a, rfl, a, R.C, rfl, R.T, R.no, .inl ⟨ha, fun dx h1 h2 => k dx h1 h2⟩⟩⟩
theorem scErr3 : FnScope ["self", "index"] ["self", "index"] (defScope (sErr 3)) := ⟨rfl, rfl, rfl, by decide +kernel, rfl, by decide +kernel, by decide +kernel⟩
theorem ok_err3 (R : Er K mg "BadWishes" "BadWishes.__init__" (sErr 3)) : FnOk P w K mg base (L2.CX P w) 1 R.fI R.fd ["self", "index"] (spErr R.C) := by
  refine R.F.okX scErr3 (fun vs H Q E h => ?_) (fun cdv A outer s H vs Q E hr h => ?_)
  · obtain ⟨a, y, rfl, _⟩ := h
    rfl
  · obtain ⟨a, y, rfl, ha, k⟩ := h
    exact ⟨_, pss_one (ps_ost (pv 0) (pv 1)), ⟨y, rfl, .ref a, rfl, a, R.C, rfl, R.T, R.no, .inl ⟨ha, fun dx h1 h2 => k dx h1 h2⟩⟩⟩
theorem scErr4 : FnScope ["self", "index"] ["self", "index"] (defScope (sErr 4)) := ⟨rfl, rfl, rfl, by decide +kernel, rfl, by decide +kernel, by decide +kernel⟩
theorem ok_err4 (R : Er K mg "BadGuards" "BadGuards.__init__" (sErr 4)) : FnOk P w K mg base (L2.CX P w) 1 R.fI R.fd ["self", "index"] (spErr R.C) := by
  refine R.F.okX scErr4 (fun vs H Q E h => ?_) (fun cdv A outer s H vs Q E hr h => ?_)
  · obtain ⟨a, y, rfl, _⟩ := h
    rfl
  · obtain ⟨a, y, rfl, ha, k⟩ := h
    exact ⟨_, pss_one (ps_ost (pv 0) (pv 1)), ⟨y, rfl, .ref a, rfl, a, R.C, rfl, R.T, R.no, .inl ⟨ha, fun dx h1 h2 => k dx h1 h2⟩⟩⟩
/-! ### Question -/
def rTupOf (K : PySem.W.Frag) : List V → Hp → VK → Prop := fun xs H Q => ∃ p ys, xs = [.ref p] ∧ ((SqL K H p ys ∧ ∀ l, H l = none → Q (.ref l) (upd H l (.tup ys))) ∨ (SqT K H p ys ∧ Q (.ref p) H))
theorem call_tupOf {X : Cx} : CallR X (.type "tuple") (rTupOf X.K) := call_tuple_of
def tAt (K : PySem.W.Frag) (i : Nat) (n : Int) : TE := tOp (rSeqA K) (tVar i) (tC (.int n))
structure Qc (K : PySem.W.Frag) (mg : Str → Option Value) where
  C : Addr
  cl : Cls K C
  no : ∀ f ∈ (["names", "hands", "places", "wish_lists", "guard_lists", "wish_codes", "wish_turns", "guard_codes", "guard_turns"] : List Str), NoAttr K C f
  g : mg "Question" = some (.ref C)
abbrev sInit : Stmt := inClass (top 24) 0
abbrev nInit : List Str := ["self", "marks", "wishes", "guards", "wrong", "mark", "name", "place", "clause"]
theorem scInit : FnScope nInit ["self", "marks", "wishes", "guards"] (defScope sInit) := ⟨rfl, rfl, rfl, by decide +kernel, rfl, by decide +kernel, by decide +kernel⟩
/-- the defs of the top that __init__ calls -/
structure Pk (K : PySem.W.Frag) (mg : Str → Option Value) where
  isList : Dn K mg "is_list" sIsList ["thing"]
  isTupleOf : Dn K mg "is_tuple_of" sIsTupleOf ["thing", "length"]
  isInteger : Dn K mg "is_integer" sIsInteger ["thing"]
  isName : Dn K mg "is_name" sIsName ["thing"]
  lits : Dn K mg "literal_list" sLits ["places", "thing"]
  ord : DnC K mg "in_marks_order" sOrd ["places", "literals"]
  code : Dn K mg "code_of" sCode ["places", "literals"]
  turn : Dn K mg "turned_code" sTurn ["places", "literals"]
  bit : Dn K mg "truth_bit" sBit ["place", "truth"]
  isHand : Dn K mg "is_hand" sIsHand ["thing"]
  fwm : Dn K mg "first_wrong_mark" sFwm ["marks"]
  fwc : Dn K mg "first_wrong_clause" sFwc ["places", "clauses"]
  ocl : Dn K mg "ordered_clauses" sOcl ["places", "clauses"]
  e2 : Er K mg "BadMarks" "BadMarks.__init__" (sErr 2)
  e3 : Er K mg "BadWishes" "BadWishes.__init__" (sErr 3)
  e4 : Er K mg "BadGuards" "BadGuards.__init__" (sErr 4)
theorem optFold_cons {α β : Type} {f : β → α → Option β} {x : α} {xs : List α} {b : β} : optFold f (x :: xs) b = (match f b x with | none => none | some c => optFold f xs c) := rfl
/-- the marks that a thing is: names and hands -/
def IsMarks (d : D) (ps : List (Str × D)) : Prop := ∃ ds, d.items? = some ds ∧ ds.map D.items? = ps.map (fun p => some [D.str p.1, p.2]) ∧ (∀ p ∈ ps, p.2.isHand = true) ∧ optFold markS ds [] = some (ps.map Prod.fst)
def IsClauses (names : List Str) (d : D) (cs : List (List (Str × Bool))) : Prop := ∃ ds, d.items? = some ds ∧ ds.map (litsOf names) = cs.map some
def handD : D → D
  | .lst xs => .tup xs
  | d => d
theorem marks_of : ∀ {ds : List D} {acc names : List Str}, optFold markS ds acc = some names → ∃ ps : List (Str × D), ds.map D.items? = ps.map (fun p => some [D.str p.1, p.2]) ∧ (∀ p ∈ ps, p.2.isHand = true) ∧ names = acc ++ ps.map Prod.fst
  | [], acc, names, h => by
    cases (show some acc = some names from h)
    exact ⟨[], rfl, fun p hp => by simp at hp, by simp⟩
  | d :: ds, acc, names, h => by
    rw [optFold_cons] at h
    cases e : markS acc d with
    | none => rw [e] at h; cases h
    | some c =>
      rw [e] at h
      obtain ⟨ps, h1, h2, h3⟩ := marks_of (show optFold markS ds c = some names from h)
      unfold markS at e
      cases e1 : mark1 d with
      | none => rw [e1] at e; cases e
      | some m =>
        rw [e1] at e
        have e : (if m ∈ acc then none else some (acc ++ [m])) = some c := e
        by_cases e2 : m ∈ acc
        · rw [if_pos e2] at e; cases e
        · rw [if_neg e2] at e
          cases e
          unfold mark1 at e1
          cases e3 : d.items? with
          | none => rw [e3] at e1; cases e1
          | some xs =>
            rw [e3] at e1
            match xs, e1 with
            | [.str a, b], e1 =>
              have e1 : (if isNameS a && b.isHand then some a else none) = some m := e1
              by_cases e4 : (isNameS a && b.isHand) = true
              · rw [if_pos e4] at e1
                cases e1
                refine ⟨(m, b) :: ps, by rw [List.map_cons, List.map_cons, h1, e3], fun p hp => ?_, by rw [h3]; simp⟩
                rcases List.mem_cons.mp hp with rfl | hp
                · exact (Bool.and_eq_true_iff.mp e4).2
                · exact h2 p hp
              · rw [if_neg e4] at e1; cases e1
            | [], e1 => cases e1
            | [_], e1 => cases e1
            | _ :: _ :: _ :: _, e1 => cases e1
            | [.non, _], e1 => cases e1
            | [.bl _, _], e1 => cases e1
            | [.int _, _], e1 => cases e1
            | [.lst _, _], e1 => cases e1
            | [.tup _, _], e1 => cases e1
            | [.dic, _], e1 => cases e1
theorem stopAt_done {α β : Type} {f : β → α → Option β} : ∀ {xs : List α} {b : β} {n : Nat}, stopAt f xs b n = none → ∃ c, optFold f xs b = some c
  | [], b, _, _ => ⟨b, rfl⟩
  | x :: xs, b, n, h => by
    have h : (match f b x with | none => some n | some d => stopAt f xs d (n + 1)) = none := h
    show ∃ c, (match f b x with | none => none | some d => optFold f xs d) = some c
    cases e : f b x with
    | none => rw [e] at h; cases h
    | some d => rw [e] at h; exact stopAt_done (n := n + 1) h
theorem isMarks_of {d : D} (h : firstMark d = none) : ∃ ps, IsMarks d ps := by
  unfold firstMark at h
  cases e : d.items? with
  | none => rw [e] at h; cases h
  | some ds =>
    rw [e] at h
    obtain ⟨names, hn⟩ := stopAt_done h
    obtain ⟨ps, h1, h2, h3⟩ := marks_of hn
    refine ⟨ps, ds, e, h1, h2, ?_⟩
    rw [hn, h3]
    simp
theorem clauses_of {names : List Str} : ∀ {ds : List D}, optFold (clauseS names) ds () = some () → ∃ cs : List (List (Str × Bool)), ds.map (litsOf names) = cs.map some
  | [], _ => ⟨[], rfl⟩
  | d :: ds, h => by
    rw [optFold_cons] at h
    cases e : litsOf names d with
    | none =>
      have e1 : clauseS names () d = none := by unfold clauseS; rw [e]; rfl
      rw [e1] at h; cases h
    | some c =>
      have e1 : clauseS names () d = some () := by unfold clauseS; rw [e]; rfl
      rw [e1] at h
      obtain ⟨cs, hc⟩ := clauses_of (show optFold (clauseS names) ds () = some () from h)
      exact ⟨c :: cs, by rw [List.map_cons, List.map_cons, e, hc]⟩
theorem isClauses_of {names : List Str} {d : D} (h : firstClause names d = none) : ∃ cs, IsClauses names d cs := by
  unfold firstClause at h
  cases e : d.items? with
  | none => rw [e] at h; cases h
  | some ds =>
    rw [e] at h
    obtain ⟨c, hn⟩ := stopAt_done h
    obtain ⟨cs, hc⟩ := clauses_of hn
    exact ⟨cs, ds, e, hc⟩
theorem lits_in {names : List Str} : ∀ {ds : List D} {acc ls : List (Str × Bool)}, (∀ l ∈ acc, l.1 ∈ names) → optFold (litS names) ds acc = some ls → (∀ l ∈ ls, l.1 ∈ names) ∧ ls.length = acc.length + ds.length
  | [], acc, ls, ha, h => by
    cases (show some acc = some ls from h)
    exact ⟨ha, rfl⟩
  | d :: ds, acc, ls, ha, h => by
    rw [optFold_cons] at h
    cases e : litS names acc d with
    | none => rw [e] at h; cases h
    | some c =>
      rw [e] at h
      unfold litS at e
      cases e1 : lit1 names d with
      | none => rw [e1] at e; cases e
      | some l =>
        rw [e1] at e
        have e : (if l.1 ∈ acc.map Prod.fst then none else some (acc ++ [l])) = some c := e
        by_cases e2 : l.1 ∈ acc.map Prod.fst
        · rw [if_pos e2] at e; cases e
        · rw [if_neg e2] at e
          cases e
          have hl : l.1 ∈ names := by
            unfold lit1 at e1
            cases e3 : d.items? with
            | none => rw [e3] at e1; cases e1
            | some xs =>
              rw [e3] at e1
              match xs, e1 with
              | [p, q], e1 =>
                have e1 : lit2 names p q = some l := e1
                cases p with
                | str m =>
                  cases q with
                  | bl t =>
                    have e1 : (if m ∈ names then some (m, t) else none) = some l := e1
                    by_cases e4 : m ∈ names
                    · rw [if_pos e4] at e1; cases e1; exact e4
                    · rw [if_neg e4] at e1; cases e1
                  | _ => cases e1
                | _ => cases e1
              | [], e1 => cases e1
              | [_], e1 => cases e1
              | _ :: _ :: _ :: _, e1 => cases e1
          obtain ⟨h1, h2⟩ := lits_in (acc := acc ++ [l]) (fun x hx => by
            rcases List.mem_append.mp hx with hx | hx
            · exact ha x hx
            · have : x = l := by simpa using hx
              rw [this]; exact hl) (show optFold (litS names) ds (acc ++ [l]) = some ls from h)
          exact ⟨h1, by rw [h2, List.length_append]; simp; omega⟩
theorem litsOf_in {names : List Str} {d : D} {ls : List (Str × Bool)} (h : litsOf names d = some ls) (sm : d.small) : (∀ l ∈ ls, l.1 ∈ names) ∧ ls.length ≤ 1000 := by
  unfold litsOf at h
  cases e : d.items? with
  | none => rw [e] at h; cases h
  | some ds =>
    rw [e] at h
    obtain ⟨h1, h2⟩ := lits_in (acc := []) (fun _ z => by simp at z) h
    unfold D.small at sm
    rw [e] at sm
    exact ⟨h1, by rw [h2]; simpa using sm⟩
def codesD (names : List Str) (x : Bool) (cs : List (List (Str × Bool))) : D := .lst (cs.map fun c => .int (codeOf names x c))
/-- a Question, where it stands -/
def QAt (C : Addr) (S : Addr → Prop) (H : Hp) (self : Addr) (ps : List (Str × D)) (cw cg : List (List (Str × Bool))) : Prop := ∃ dx n h p wl gl wc wt gc gt : Addr,
  H self = some (.ins C dx [("names", .ref n), ("hands", .ref h), ("places", .ref p), ("wish_lists", .ref wl), ("guard_lists", .ref gl), ("wish_codes", .ref wc), ("wish_turns", .ref wt), ("guard_codes", .ref gc), ("guard_turns", .ref gt)]) ∧
  Rep S H (.lst (ps.map fun q => .str q.1)) (.ref n) ∧ Rep S H (.lst (ps.map fun q => handD q.2)) (.ref h) ∧ H p = some (.dK (placesK (ps.map Prod.fst))) ∧ Rep S H (clausesD cw) (.ref wl) ∧ Rep S H (clausesD cg) (.ref gl) ∧
  Rep S H (codesD (ps.map Prod.fst) false cw) (.ref wc) ∧ Rep S H (codesD (ps.map Prod.fst) true cw) (.ref wt) ∧ Rep S H (codesD (ps.map Prod.fst) false cg) (.ref gc) ∧ Rep S H (codesD (ps.map Prod.fst) true cg) (.ref gt)
theorem marks_nodup : ∀ {ds : List D} {acc names : List Str}, acc.Nodup → optFold markS ds acc = some names → names.Nodup
  | [], acc, names, ha, h => by
    cases (show some acc = some names from h)
    exact ha
  | d :: ds, acc, names, ha, h => by
    rw [optFold_cons] at h
    cases e : markS acc d with
    | none => rw [e] at h; cases h
    | some c =>
      rw [e] at h
      refine marks_nodup ?_ (show optFold markS ds c = some names from h)
      unfold markS at e
      cases e1 : mark1 d with
      | none => rw [e1] at e; cases e
      | some m =>
        rw [e1] at e
        have e : (if m ∈ acc then none else some (acc ++ [m])) = some c := e
        by_cases e2 : m ∈ acc
        · rw [if_pos e2] at e; cases e
        · rw [if_neg e2] at e
          cases e
          rw [List.nodup_append]
          exact ⟨ha, by simp, fun a h1 b h2 => by
            have : b = m := by simpa using h2
            subst this
            exact fun z => e2 (z ▸ h1)⟩
theorem placesF_keys : ∀ (n : Nat) (names : List Str), (placesF n names).map Prod.fst = names.map Sum.inr
  | _, [] => rfl
  | n, m :: ms => by
    show Sum.inr m :: (placesF (n + 1) ms).map Prod.fst = _
    rw [placesF_keys]
    rfl
theorem placesF_snoc : ∀ (n : Nat) (names : List Str) (m : Str), placesF n (names ++ [m]) = placesF n names ++ [(Sum.inr m, V.int ((n + names.length : Nat) : Int))]
  | n, [], m => rfl
  | n, x :: xs, m => by
    show (Sum.inr x, V.int (n : Nat)) :: placesF (n + 1) (xs ++ [m]) = _
    rw [placesF_snoc, List.length_cons, show n + 1 + xs.length = n + (xs.length + 1) by omega]
    rfl
theorem placesF_put (names : List Str) (m : Str) (h : ¬ m ∈ names) : putK (placesF 0 names) (Sum.inr m) (V.int ((names.length : Nat) : Int)) = placesF 0 (names ++ [m]) := by
  have h1 : ((placesF 0 names).any fun kv => decide (kv.1 = Sum.inr m)) = false := by
    rw [List.any_eq_false]
    intro p hp
    have : p.1 ∈ (placesF 0 names).map Prod.fst := List.mem_map_of_mem hp
    rw [placesF_keys] at this
    obtain ⟨x, hx, hx2⟩ := List.mem_map.mp this
    intro z
    have z := of_decide_eq_true z
    rw [← hx2] at z
    cases z
    exact h hx
  rw [placesF_snoc, Nat.zero_add]
  unfold putK
  simp only [h1]
  rfl
/-- what may be passed as marks; as clauses -/
def MarksIn (d : D) : Prop := d.small ∧ ∀ ds, d.items? = some ds → shortL ds
def ClausesIn (d : D) : Prop := d.small ∧ ∀ ds, d.items? = some ds → smallL ds
def spInit (C C2 C3 C4 : Addr) (T : List (Addr × Str)) : Sp := fun vs H Q E => ∃ (H0 : Hp) (self dx : Addr) (m wi gu : V) (S : Addr → Prop) (dm dw dg : D), vs = [.ref self, m, wi, gu] ∧ Same H0 H ∧ H0 self = none ∧ H self = some (.ins C dx []) ∧
  Rep S H0 dm m ∧ Rep S H0 dw wi ∧ Rep S H0 dg gu ∧ Tabs T H0 ∧ MarksIn dm ∧ ClausesIn dw ∧ ClausesIn dg ∧
  (∀ i, firstMark dm = some i → ∀ H' d, ExtN H0 H' → Tabs T H' → H' d = some (.xd [("index", .int (i : Nat))]) → E (.ref C2) (some d) H') ∧
  (∀ ps i, IsMarks dm ps → firstClause (ps.map Prod.fst) dw = some i → ∀ H' d, ExtN H0 H' → Tabs T H' → H' d = some (.xd [("index", .int (i : Nat))]) → E (.ref C3) (some d) H') ∧
  (∀ ps cw i, IsMarks dm ps → IsClauses (ps.map Prod.fst) dw cw → firstClause (ps.map Prod.fst) dg = some i → ∀ H' d, ExtN H0 H' → Tabs T H' → H' d = some (.xd [("index", .int (i : Nat))]) → E (.ref C4) (some d) H') ∧
  ∀ ps cw cg, IsMarks dm ps → IsClauses (ps.map Prod.fst) dw cw → IsClauses (ps.map Prod.fst) dg cg → ∀ H', ExtN H0 H' → Tabs T H' → QAt C (NewN H0) H' self ps (cw.map (sortLits (ps.map Prod.fst))) (cg.map (sortLits (ps.map Prod.fst))) → Q .non H'
theorem nd_ins {S : Addr → Prop} {a C dx : Addr} {fs : List (Str × V)} : ¬ Nd S a (.ins C dx fs) := fun n => by
  rcases n with ⟨_, e, s⟩ | ⟨_, e⟩ | e <;> cases e
/-- behind the raise of an error -/
theorem err_same {H1 : Hp} {a d : Addr} {x y z u : HO} (ha : H1 a = none) (hd : upd H1 a x d = none) : Same H1 (upd (del (upd (upd (upd H1 a x) d y) a z) a) d u) := fun b o e => by
  have nba : b ≠ a := ne_of_none e ha
  have hd1 : H1 d = none := by
    have : d ≠ a := fun q => by rw [q, upd_same] at hd; cases hd
    rw [upd_ne this] at hd
    exact hd
  have nbd : b ≠ d := ne_of_none e hd1
  rw [upd_ne nbd, del_ne nba, upd_ne nba, upd_ne nbd, upd_ne nba]
  exact e
/-- a dict comprehension over it -/
theorem dc_it {J : It} {n : Nat} {G : Hp → Prop} {Y : Nat → Hp → V → Hp → Prop} (w : Walk J n G Y) {g : TG} {tt : TT} {tk tv : TE} {vs : List Nat} {σ : L2.St} {H1 : Hp} {D : Addr} {Qd : Hp → Prop} (Pv : Nat → Hp → Prop) (h0 : Pv 0 (upd H1 D (.dK []))) (hG : ∀ i H, i ≤ n → Pv i H → G H)
    (hs : ∀ i x H H', i < n → Pv i H → Y i H x H' → g x (wipe σ vs) H' fun σ2 H2 => wipe σ2 vs = wipe σ vs ∧ tt σ2 H2 fun b H3 =>
      if b = true then tk σ2 H3 fun y H4 => tv σ2 H4 fun z H5 => ∃ kvs k, y = kV k ∧ H5 D = some (.dK kvs) ∧ kvs.length < sizeLine ∧ Pv (i + 1) (upd H5 D (.dK (putK kvs k z))) else Pv (i + 1) H3) (hd : ∀ H, Pv n H → Qd H) :
    ∃ W : Nat → Nat → Hp → Prop, (∃ m, W 0 m (upd H1 D (.dK []))) ∧ ∀ i m H, W i m H →
      (J.stop i H ∧ Qd H) ∨ (J.go i H ∧ ∃ Nx : Hp → Prop, (∀ H', Nx H' → ∃ m', m' < m ∧ W (i + 1) m' H') ∧ ∀ x H', J.yld i H x H' → g x (wipe σ vs) H' fun σ2 H2 => wipe σ2 vs = wipe σ vs ∧ tt σ2 H2 fun b H3 =>
        if b = true then tk σ2 H3 fun y H4 => tv σ2 H4 fun z H5 => ∃ kvs k, y = kV k ∧ H5 D = some (.dK kvs) ∧ kvs.length < sizeLine ∧ Nx (upd H5 D (.dK (putK kvs k z))) else Nx H3) := by
  refine ⟨fun i m H => m = n - i ∧ i ≤ n ∧ Pv i H, ⟨n, by simp, Nat.zero_le _, h0⟩, ?_⟩
  rintro i m H ⟨rfl, hi, p⟩
  have q := hG i H hi p
  by_cases hlt : i < n
  · refine .inr ⟨w.goes i H hlt q, Pv (i + 1), fun H' p' => ⟨n - (i + 1), by omega, rfl, hlt, p'⟩, fun x H' y => hs i x H H' hlt p (w.yields i H x H' hlt q y)⟩
  · have e : i = n := by omega
    subst e
    exact .inl ⟨w.stops H q, hd H p⟩
/-- what is known of the heap while a Question is made -/
structure Jn (C me dx : Addr) (H0 : Hp) (T : List (Addr × Str)) (H : Hp) (fs : List (Str × V)) (ls : List (Addr × List V)) (ds : List (Addr × List (Key × V))) (reps : List (D × V)) : Prop where
  fe : ExtN H0 H
  ft : Tabs T H
  fs_ : H me = some (.ins C dx fs)
  fl : ∀ p ∈ ls, H p.1 = some (.lst p.2)
  fd_ : ∀ p ∈ ds, H p.1 = some (.dK p.2)
  fr : ∀ p ∈ reps, Rep (NewN H0) H p.1 p.2
section
variable {C me dx : Addr} {H0 H H' : Hp} {T : List (Addr × Str)} {fs : List (Str × V)} {ls : List (Addr × List V)} {ds : List (Addr × List (Key × V))} {reps : List (D × V)}
theorem Jn.ext (j : Jn C me dx H0 T H fs ls ds reps) (e : ExtN H H') (t : Tabs T H') : Jn C me dx H0 T H' fs ls ds reps :=
  ⟨j.fe.trans e, t, e _ _ j.fs_ (fun _ z => by cases z), fun p hp => e _ _ (j.fl p hp) (fun _ z => by cases z), fun p hp => e _ _ (j.fd_ p hp) (fun _ z => by cases z), fun p hp => (j.fr p hp).extN e⟩
theorem Jn.same (j : Jn C me dx H0 T H fs ls ds reps) (e : Same H H') : Jn C me dx H0 T H' fs ls ds reps := j.ext (extN_of e) (j.ft.ext e)
theorem Jn.store (j : Jn C me dx H0 T H fs ls ds reps) (n0 : H0 me = none) (fs' : List (Str × V)) : Jn C me dx H0 T (upd H me (.ins C dx fs')) fs' ls ds reps :=
  ⟨ExtN.at' j.fe n0, tabs_upd j.ft j.fs_ (fun _ z => by cases z) (fun _ z => by unfold CodeO at z; cases z), upd_same, fun p hp => by rw [upd_ne (ne_of (j.fl p hp) j.fs_ (fun z => by cases z))]; exact j.fl p hp,
    fun p hp => by rw [upd_ne (ne_of (j.fd_ p hp) j.fs_ (fun z => by cases z))]; exact j.fd_ p hp, fun p hp => Rep.mono (fun _ z => z) (stay_upd j.fs_ nd_ins) (j.fr p hp)⟩
theorem Jn.addL (j : Jn C me dx H0 T H fs ls ds reps) {a : Addr} {vs : List V} (h : H a = some (.lst vs)) : Jn C me dx H0 T H fs ((a, vs) :: ls) ds reps :=
  ⟨j.fe, j.ft, j.fs_, fun p hp => by
    rcases List.mem_cons.mp hp with rfl | hp
    · exact h
    · exact j.fl p hp, j.fd_, j.fr⟩
theorem Jn.addD (j : Jn C me dx H0 T H fs ls ds reps) {a : Addr} {vs : List (Key × V)} (h : H a = some (.dK vs)) : Jn C me dx H0 T H fs ls ((a, vs) :: ds) reps :=
  ⟨j.fe, j.ft, j.fs_, j.fl, fun p hp => by
    rcases List.mem_cons.mp hp with rfl | hp
    · exact h
    · exact j.fd_ p hp, j.fr⟩
theorem Jn.addR (j : Jn C me dx H0 T H fs ls ds reps) {d : D} {v : V} (h : Rep (NewN H0) H d v) : Jn C me dx H0 T H fs ls ds ((d, v) :: reps) :=
  ⟨j.fe, j.ft, j.fs_, j.fl, j.fd_, fun p hp => by
    rcases List.mem_cons.mp hp with rfl | hp
    · exact h
    · exact j.fr p hp⟩
end
theorem reps_map {α : Type} {S : Addr → Prop} {H : Hp} {f : α → D} {g : α → V} : ∀ {l : List α}, (∀ x ∈ l, Rep S H (f x) (g x)) → Reps S H (l.map f) (l.map g)
  | [], _ => rfl
  | x :: l, h => ⟨g x, _, rfl, h x List.mem_cons_self, reps_map fun y hy => h y (List.mem_cons_of_mem _ hy)⟩
theorem hand_odds {d : D} (h : d.isHand = true) (hs : d.isStr = false) : ∃ i j : Int, d = .lst [.int i, .int j] ∨ d = .tup [.int i, .int j] := by
  have key : ∀ xs, (match (some xs : Option (List D)) with | some [p, q] => isOdds p q | _ => false) = true → ∃ i j : Int, xs = [.int i, .int j] := fun xs h => by
    match xs, h with
    | [p, q], h =>
      have h : isOdds p q = true := h
      cases p <;> cases q <;> first | exact ⟨_, _, rfl⟩ | cases h
    | [], h => cases h
    | [_], h => cases h
    | _ :: _ :: _ :: _, h => cases h
  cases d with
  | str s => cases hs
  | lst xs => obtain ⟨i, j, rfl⟩ := key xs h; exact ⟨i, j, .inl rfl⟩
  | tup xs => obtain ⟨i, j, rfl⟩ := key xs h; exact ⟨i, j, .inr rfl⟩
  | _ => cases h
theorem putF_new : ∀ {fs : List (Str × V)} {f : Str} {y : V}, ¬ f ∈ fs.map Prod.fst → putF f y fs = fs ++ [(f, y)]
  | [], f, y, _ => rfl
  | (g, v) :: fs, f, y, h => by
    show (if g = f then (g, y) :: fs else (g, v) :: putF f y fs) = _
    rw [if_neg (fun z => h (by rw [z]; exact List.mem_cons_self)), putF_new fun hp => h (List.mem_cons_of_mem _ hp)]
    rfl
theorem ok_init {T : List (Addr × Str)} (B : Bt mg) (Cc : Cs mg) (Z : Qc K mg) (Y : Pk K mg) {f : Addr} {fd : FuncData} (F : Fun K "__init__" "Question.__init__" sInit f fd)
    (TB : TabB base mg Y.ord.c Y.ord.t) (hmT : (Y.ord.t, ("in_marks_order.<locals>.<lambda>" : Str)) ∈ T) (hu : ∀ p ∈ T, p.1 = Y.ord.t → p.2 = "in_marks_order.<locals>.<lambda>") :
    FnOk P w K mg base (L2.CX P w) 5 f fd ["self", "marks", "wishes", "guards"] (spInit Z.C Y.e2.C Y.e3.C Y.e4.C T) := by
  have GM : FnOk P w K mg base CX0 4 Y.fwm.f Y.fwm.fd ["marks"] spFwm := ok_fwm B Cc Y.fwm Y.isList Y.isTupleOf Y.isName Y.isHand Y.isInteger
  have GC : FnOk P w K mg base CX0 4 Y.fwc.f Y.fwc.fd ["places", "clauses"] spFwc := ok_fwc B Y.fwc Y.isList Y.isTupleOf Y.lits
  have GO : FnOk P w K mg base CX0 4 Y.ocl.f Y.ocl.fd ["places", "clauses"] (spOcl T) := ok_ocl B Y.ocl Y.ord Y.isList Y.isTupleOf Y.lits TB hmT hu
  have GX : FnOk P w K mg base CX0 2 Y.code.f Y.code.fd ["places", "literals"] (spCode false) := ok_code B Y.code Y.bit
  have GY : FnOk P w K mg base CX0 2 Y.turn.f Y.turn.fd ["places", "literals"] (spCode true) := ok_turn B Y.turn Y.bit
  have E2 : FnOk P w K mg base (L2.CX P w) 1 Y.e2.fI Y.e2.fd ["self", "index"] (spErr Y.e2.C) := ok_err2 Y.e2
  have E3 : FnOk P w K mg base (L2.CX P w) 1 Y.e3.fI Y.e3.fd ["self", "index"] (spErr Y.e3.C) := ok_err3 Y.e3
  have E4 : FnOk P w K mg base (L2.CX P w) 1 Y.e4.fI Y.e4.fd ["self", "index"] (spErr Y.e4.C) := ok_err4 Y.e4
  refine F.okX scInit (fun vs H Q E h => ?_) (fun cdv A outer s H vs Q E hr h => ?_)
  · obtain ⟨H0, self, dx, m, wi, gu, S, dm, dw, dg, rfl, _⟩ := h
    rfl
  · obtain ⟨H0, self, dx, m, wi, gu, S, dm, dw, dg, rfl, s0, n0, hself, rm, rw_, rg, T0, mi, wii, gii, k2, k3, k4, k⟩ := h
    refine ⟨_, pss_cons (ps_set (i := 4) scInit.nd rfl (Or.inl rfl) (pe_call GM hr (by rfl) Y.fwm.g Y.fwm.F.kp Y.fwm.b .nil pass0 (pa_cons (pv 1) pa_nil)))
      (pss_cons (ps_if (pt_cmp (pc_notN (pv 4)) (by rfl)) (pss_one (ps_raise rfl (takes_of rfl rfl rfl rfl) (pmk_oex Y.e2.T Y.e2.iC Y.e2.tI E2 (hr.mono (by decide)) Y.e2.b .nil passL (by rfl) Y.e2.g (pa_cons (pv 4) pa_nil)))) pss_nil)
      (pss_cons (ps_fld (pv 0) (pe_lc (own := [("mark", 5)]) (g := gName 5) (tt := tYes) (te := tAt K 5 0) rfl scInit.nd (pi_seq (pv 1)) (blkOk_by (own := [("mark", 5)]) (N := nInit) (sc := defScope sInit) (by decide +kernel)) (fun _ _ _ _ _ => pg_name (i := 5) scInit.nd rfl (Or.inl rfl)) (fun _ _ _ _ _ => pts_nil)
          (fun _ _ _ _ _ => pe_ix ix_seqA (pv 5) pe_int (fun _ _ => rfl))) rfl)
      (pss_cons (ps_fld (pv 0) (pe_lc (own := [("mark", 5)]) (g := gName 5) (tt := tYes) (te := tIf (tB (tCB (rIsi K) (tCons (tAt K 5 1) (tCons (tC (.ty "str")) tNil)))) (tAt K 5 1) (tCB (rTupOf K) (tCons (tAt K 5 1) tNil))) rfl scInit.nd (pi_seq (pv 1)) (blkOk_by (own := [("mark", 5)]) (N := nInit) (sc := defScope sInit) (by decide +kernel)) (fun _ _ _ _ _ => pg_name (i := 5) scInit.nd rfl (Or.inl rfl)) (fun _ _ _ _ _ => pts_nil)
          (fun _ _ _ _ _ => pe_ifExp (pt_val (pe_callB call_isi (by rfl) B.isi PyProof.Rows.boot_isinstance (pa_cons (pe_ix ix_seqA (pv 5) pe_int (fun _ _ => rfl)) (pa_cons (gt B.str PyProof.Rows.boot_str) pa_nil))) (fun _ => rfl)) (pe_ix ix_seqA (pv 5) pe_int (fun _ _ => rfl))
            (pe_callTy call_tupOf (by rfl) B.tup PyProof.Rows.boot_tuple (pa_cons (pe_ix ix_seqA (pv 5) pe_int (fun _ _ => rfl)) pa_nil)))) rfl)
      (pss_cons (ps_fld (pv 0) (pe_dc (own := [("place", 7), ("name", 6)]) (g := gTup K 2 (gCons (gName 7) (gCons (gName 6) gNil))) (tt := tYes) rfl scInit.nd (pi_enum (by rfl) B.enumerate (pa_cons (pe_fld (pv 0) rfl) pa_nil)) (blkOk_by (own := [("place", 7), ("name", 6)]) (N := nInit) (sc := defScope sInit) (by decide +kernel))
          (fun _ _ _ _ _ => pg_tup (by rfl) (pgs_cons (pg_name (i := 7) scInit.nd (by rfl) (Or.inl (by rfl)) (by exact .inr rfl)) (pgs_cons (pg_name (i := 6) scInit.nd (by rfl) (Or.inl (by rfl)) (by exact .inr rfl)) pgs_nil))) (fun _ _ _ _ _ => pts_nil) (fun _ _ _ _ _ => pv 6) (fun _ _ _ _ _ => pv 7)) rfl)
      (pss_cons (ps_set (i := 4) scInit.nd rfl (Or.inl rfl) (pe_call GC hr (by rfl) Y.fwc.g Y.fwc.F.kp Y.fwc.b .nil pass0 (pa_cons (pe_fld (pv 0) rfl) (pa_cons (pv 2) pa_nil))))
      (pss_cons (ps_if (pt_cmp (pc_notN (pv 4)) (by rfl)) (pss_one (ps_raise rfl (takes_of rfl rfl rfl rfl) (pmk_oex Y.e3.T Y.e3.iC Y.e3.tI E3 (hr.mono (by decide)) Y.e3.b .nil passL (by rfl) Y.e3.g (pa_cons (pv 4) pa_nil)))) pss_nil)
      (pss_cons (ps_set (i := 4) scInit.nd rfl (Or.inl rfl) (pe_call GC hr (by rfl) Y.fwc.g Y.fwc.F.kp Y.fwc.b .nil pass0 (pa_cons (pe_fld (pv 0) rfl) (pa_cons (pv 3) pa_nil))))
      (pss_cons (ps_if (pt_cmp (pc_notN (pv 4)) (by rfl)) (pss_one (ps_raise rfl (takes_of rfl rfl rfl rfl) (pmk_oex Y.e4.T Y.e4.iC Y.e4.tI E4 (hr.mono (by decide)) Y.e4.b .nil passL (by rfl) Y.e4.g (pa_cons (pv 4) pa_nil)))) pss_nil)
      (pss_cons (ps_fld (pv 0) (pe_call GO hr (by rfl) Y.ocl.g Y.ocl.F.kp Y.ocl.b .nil pass0 (pa_cons (pe_fld (pv 0) rfl) (pa_cons (pv 2) pa_nil))) rfl)
      (pss_cons (ps_fld (pv 0) (pe_call GO hr (by rfl) Y.ocl.g Y.ocl.F.kp Y.ocl.b .nil pass0 (pa_cons (pe_fld (pv 0) rfl) (pa_cons (pv 3) pa_nil))) rfl)
      (pss_cons (ps_fld (pv 0) (pe_lc (own := [("clause", 8)]) (g := gName 8) (tt := tYes) (te := tCall (spCode false) [] E0 (tCons (tFld K (tVar 0) "places") (tCons (tVar 8) tNil))) rfl scInit.nd (pi_list (pe_fld (pv 0) rfl)) (blkOk_by (own := [("clause", 8)]) (N := nInit) (sc := defScope sInit) (by decide +kernel)) (fun _ _ _ _ _ => pg_name (i := 8) scInit.nd rfl (Or.inl rfl)) (fun _ _ _ _ _ => pts_nil)
          (fun _ _ _ _ _ => pe_call GX (hr.mono (by decide)) (by rfl) Y.code.g Y.code.F.kp Y.code.b .nil pass0 (pa_cons (pe_fld (pv 0) rfl) (pa_cons (pv 8) pa_nil)))) rfl)
      (pss_cons (ps_fld (pv 0) (pe_lc (own := [("clause", 8)]) (g := gName 8) (tt := tYes) (te := tCall (spCode true) [] E0 (tCons (tFld K (tVar 0) "places") (tCons (tVar 8) tNil))) rfl scInit.nd (pi_list (pe_fld (pv 0) rfl)) (blkOk_by (own := [("clause", 8)]) (N := nInit) (sc := defScope sInit) (by decide +kernel)) (fun _ _ _ _ _ => pg_name (i := 8) scInit.nd rfl (Or.inl rfl)) (fun _ _ _ _ _ => pts_nil)
          (fun _ _ _ _ _ => pe_call GY (hr.mono (by decide)) (by rfl) Y.turn.g Y.turn.F.kp Y.turn.b .nil pass0 (pa_cons (pe_fld (pv 0) rfl) (pa_cons (pv 8) pa_nil)))) rfl)
      (pss_cons (ps_fld (pv 0) (pe_lc (own := [("clause", 8)]) (g := gName 8) (tt := tYes) (te := tCall (spCode false) [] E0 (tCons (tFld K (tVar 0) "places") (tCons (tVar 8) tNil))) rfl scInit.nd (pi_list (pe_fld (pv 0) rfl)) (blkOk_by (own := [("clause", 8)]) (N := nInit) (sc := defScope sInit) (by decide +kernel)) (fun _ _ _ _ _ => pg_name (i := 8) scInit.nd rfl (Or.inl rfl)) (fun _ _ _ _ _ => pts_nil)
          (fun _ _ _ _ _ => pe_call GX (hr.mono (by decide)) (by rfl) Y.code.g Y.code.F.kp Y.code.b .nil pass0 (pa_cons (pe_fld (pv 0) rfl) (pa_cons (pv 8) pa_nil)))) rfl)
      (pss_one (ps_fld (pv 0) (pe_lc (own := [("clause", 8)]) (g := gName 8) (tt := tYes) (te := tCall (spCode true) [] E0 (tCons (tFld K (tVar 0) "places") (tCons (tVar 8) tNil))) rfl scInit.nd (pi_list (pe_fld (pv 0) rfl)) (blkOk_by (own := [("clause", 8)]) (N := nInit) (sc := defScope sInit) (by decide +kernel)) (fun _ _ _ _ _ => pg_name (i := 8) scInit.nd rfl (Or.inl rfl)) (fun _ _ _ _ _ => pts_nil)
          (fun _ _ _ _ _ => pe_call GY (hr.mono (by decide)) (by rfl) Y.turn.g Y.turn.F.kp Y.turn.b .nil pass0 (pa_cons (pe_fld (pv 0) rfl) (pa_cons (pv 8) pa_nil)))) rfl))))))))))))))), ?_⟩
    refine ⟨_, rfl, S, dm, m, rfl, rm.same s0, mi.1, mi.2, fun H1 s1 => ?_⟩
    have e1 : ExtN H0 H1 := extN_of (s0.trans s1)
    have T1 : Tabs T H1 := T0.ext (s0.trans s1)
    have hs1 := s1 _ _ hself
    refine ⟨_, rfl, _, rfl, ?_⟩
    cases ef : firstMark dm with
    | some i =>
      refine iteT ?_
      refine ⟨_, rfl, (by show 1 ≤ 1000; decide), fun a ha => ⟨a, .int (i : Nat), rfl, upd_same, fun d h1 h2 => ⟨rfl, d, [("index", .int (i : Nat))], upd_same, (by rw [upd_ne h2]; exact upd_same), ?_, ?_⟩⟩⟩
      · rw [upd_ne h2] at h1
        exact h1
      · have es := err_same (y := exd d [("index", .int (i : Nat))]) (z := exo a Y.e2.C (some d)) (u := .xd [("index", .int (i : Nat))]) ha h1
        exact k2 i ef _ d (e1.trans (extN_of es)) (T1.ext es) upd_same
    | none =>
      refine iteF ?_
      obtain ⟨ps, hps⟩ := isMarks_of ef
      obtain ⟨ds, hds, hsh, hhand, hopt⟩ := id hps
      obtain ⟨ma, us, rfl, hq, rr⟩ := rm.seq (K := K) hds
      have hz : ds.length ≤ 1000 := by
        have := mi.1
        unfold D.small at this
        rw [hds] at this
        exact this
      have hul : us.length = ps.length := by
        have h1 := congrArg List.length hsh
        rw [List.length_map, List.length_map] at h1
        rw [rr.length, h1]
      have hus : us.length ≤ 1000 := by rw [rr.length]; exact hz
      -- each mark
      have mark : ∀ (i : Nat) x H', us[i]? = some x → ExtN H0 H' → ∃ q b vs vh, ps[i]? = some q ∧ x = .ref b ∧ (SqL K H' b vs ∨ SqT K H' b vs) ∧ vs = [.str q.1, vh] ∧ Rep S H' q.2 vh := fun i x H' hx e => by
        obtain ⟨dx, hdx, hrx⟩ := rr.get hx
        have h1 := congrArg (fun l => l[i]?) hsh
        simp only [List.getElem?_map, hdx, Option.map_some] at h1
        cases hp : ps[i]? with
        | none => rw [hp] at h1; cases h1
        | some q =>
          rw [hp] at h1
          have h2 : dx.items? = some [D.str q.1, q.2] := Option.some.inj h1
          obtain ⟨b, vs, rfl, hb, rb⟩ := (hrx.extN e).seq (K := K) h2
          obtain ⟨v1, r1, rfl, h3, v2, r2, rfl, h4, rfl⟩ := rb
          cases (show v1 = .str q.1 from h3)
          exact ⟨q, b, _, v2, rfl, rfl, hb, rfl, h4⟩
      -- names
      have j1 : Jn Z.C self dx H0 T H1 [] [] [] [] := ⟨e1, T1, hs1, fun _ z => by simp at z, fun _ z => by simp at z, fun _ z => by simp at z⟩
      refine ⟨_, rfl, ma, rfl, lc_seq e1 hq (fun D0 i H' => Same H1 H' ∧ H' D0 = some (.lst ((ps.take i).map fun q => V.str q.1))) (fun D0 hD => ⟨Same.new hD, upd_same⟩) (fun D0 i H' h => e1.trans (extN_of h.1)) ?_ ?_⟩
      · rintro D0 hD i x H' hx ⟨sm', hl⟩
        obtain ⟨q, b, vs, vh, hq2, rfl, hb, rfl, hr2⟩ := mark i x H' hx (e1.trans (extN_of sm'))
        refine ⟨rfl, ?_⟩
        refine ⟨_, rfl, b, _, 0, .str q.1, rfl, rfl, hb, rfl, _, hl, ?_, Same.at sm' hD, ?_⟩
        · rw [List.length_map, List.length_take]
          exact Nat.lt_of_le_of_lt (Nat.min_le_right _ _) (Nat.lt_of_le_of_lt (by omega : ps.length ≤ 1000) (by decide))
        · rw [upd_same, List.take_add_one, hq2, List.map_append]
          rfl
      · rintro nA hnA H2 ⟨sm2, hl2⟩
        rw [hul, List.take_length] at hl2
        have j2 : Jn Z.C self dx H0 T H2 [] [(nA, ps.map fun q => V.str q.1)] [] [(.lst (ps.map fun q => .str q.1), .ref nA)] :=
          ((j1.same sm2).addL hl2).addR ⟨nA, _, rfl, newN_of e1 hnA, hl2, reps_map fun _ _ => rfl⟩
        refine ⟨_, rfl, self, Z.C, dx, [], rfl, j2.fs_, Z.cl, Z.no _ (by decide +kernel), by decide, ?_⟩
        have j3 := j2.store n0 (putF "names" (.ref nA) [])
        generalize upd H2 self (.ins Z.C dx (putF "names" (.ref nA) [])) = H3 at j3 ⊢
        rw [show putF "names" (.ref nA) [] = ([("names", .ref nA)] : List (Str × V)) from rfl] at j3
        -- hands
        refine ⟨_, rfl, ma, rfl, lc_seq j3.fe hq (fun D0 i H' => Same H3 H' ∧ ∃ acc, H' D0 = some (.lst acc) ∧ acc.length = i ∧ Reps (fun _ => False) H' ((ps.take i).map fun q => handD q.2) acc) (fun D0 hD => ⟨Same.new hD, [], upd_same, rfl, rfl⟩) (fun D0 i H' h => j3.fe.trans (extN_of h.1)) ?_ ?_⟩
        · rintro D0 hD i x H' hx ⟨sm', acc, hl, hal, hra⟩
          obtain ⟨q, b, vs, vh, hq2, rfl, hb, rfl, hr2⟩ := mark i x H' hx (j3.fe.trans (extN_of sm'))
          have hil : i < us.length := (List.getElem?_eq_some_iff.mp hx).1
          have hsz : acc.length < sizeLine := by rw [hal]; exact Nat.lt_of_lt_of_le hil (Nat.le_trans hus (by decide))
          have fin : ∀ H'' y, Same H' H'' → Rep (fun _ => False) H'' (handD q.2) y → ∃ acc, H'' D0 = some (.lst acc) ∧ acc.length < sizeLine ∧ (Same H3 (upd H'' D0 (.lst (acc ++ [y]))) ∧ ∃ acc', upd H'' D0 (.lst (acc ++ [y])) D0 = some (.lst acc') ∧ acc'.length = i + 1 ∧ Reps (fun _ => False) (upd H'' D0 (.lst (acc ++ [y]))) ((ps.take (i + 1)).map fun q => handD q.2) acc') := fun H'' y se ry => by
            have hl2 := se _ _ hl
            have st : ∀ o, Stay (fun _ => False) H'' (upd H'' D0 o) := fun o => stay_upd hl2 (nd_lst (fun z => z))
            refine ⟨acc, hl2, hsz, Same.at (sm'.trans se) hD, acc ++ [y], upd_same, by rw [List.length_append, hal]; rfl, ?_⟩
            rw [List.take_add_one, hq2, List.map_append]
            exact Reps.append (Reps.mono (fun _ z => z) (Stay.trans (stay_of se) (st _)) hra) (Reps.one (Rep.mono (fun _ z => z) (st _) ry))
          refine ⟨rfl, ?_⟩
          refine ⟨_, rfl, b, _, 1, vh, rfl, rfl, hb, rfl, vh, .ty "str", _, _, _, rfl, .ty "str", hr2.ty, kit_str q.2, _, rfl, ?_⟩
          have hh := hhand q (List.mem_of_getElem? hq2)
          cases hst : q.2.isStr with
          | true =>
            refine iteT ⟨_, rfl, b, _, 1, vh, rfl, rfl, hb, rfl, fin H' vh (Same.refl _) ?_⟩
            obtain ⟨z, hz2⟩ : ∃ z, q.2 = .str z := by cases h : q.2 <;> first | exact ⟨_, rfl⟩ | (rw [h] at hst; cases hst)
            rw [hz2] at hr2 ⊢
            exact hr2
          | false =>
            obtain ⟨i1, i2, hz2⟩ := hand_odds hh hst
            refine iteF ⟨_, rfl, b, _, 1, vh, rfl, rfl, hb, rfl, ?_⟩
            rcases hz2 with hz2 | hz2
            · rw [hz2] at hr2
              obtain ⟨a2, vs2, rfl, _, ha2, w1, r3, rfl, h3, w2, r4, rfl, h4, rfl⟩ := hr2
              cases (show w1 = .int i1 from h3)
              cases (show w2 = .int i2 from h4)
              refine ⟨a2, _, rfl, .inl ⟨SqL.of ha2, fun l hl3 => fin _ _ (Same.new hl3) ?_⟩⟩
              rw [hz2]
              exact ⟨l, _, rfl, upd_same, _, _, rfl, rfl, _, _, rfl, rfl, rfl⟩
            · rw [hz2] at hr2
              obtain ⟨a2, vs2, rfl, ha2, w1, r3, rfl, h3, w2, r4, rfl, h4, rfl⟩ := hr2
              cases (show w1 = .int i1 from h3)
              cases (show w2 = .int i2 from h4)
              refine ⟨a2, _, rfl, .inr ⟨SqT.of ha2, fin _ _ (Same.refl _) ?_⟩⟩
              rw [hz2]
              exact ⟨a2, _, rfl, ha2, _, _, rfl, rfl, _, _, rfl, rfl, rfl⟩
        · rintro hA hhA H4 ⟨sm4, hv, hl4, hlen4, hr4⟩
          rw [hul, List.take_length] at hr4
          have j4 := (j3.same sm4).addR (d := .lst (ps.map fun q => handD q.2)) (v := .ref hA) ⟨hA, hv, rfl, newN_of j3.fe hhA, hl4, Reps.mono (fun _ z => z.elim) (fun _ _ e _ => e) hr4⟩
          refine ⟨_, rfl, self, Z.C, dx, _, rfl, j4.fs_, Z.cl, Z.no _ (by decide +kernel), by show 1 < 1000; decide, ?_⟩
          have q2 : putF "hands" (V.ref hA) [("names", V.ref nA)] = ([("names", V.ref nA), ("hands", V.ref hA)] : List (Str × V)) := putF_new (show ¬ ("hands" : Str) ∈ (["names"] : List Str) by decide +kernel)
          rw [q2]
          have j5 := j4.store n0 [("names", V.ref nA), ("hands", V.ref hA)]
          generalize upd H4 self (.ins Z.C dx [("names", V.ref nA), ("hands", V.ref hA)]) = H5 at j5 ⊢
          -- places
          refine ⟨_, rfl, self, Z.C, dx, _, _, rfl, j5.fs_, Z.cl, Z.no _ (by decide +kernel), rfl, nA, _, rfl, SqL.of (j5.fl _ List.mem_cons_self), fun pA hD => ?_⟩
          refine dc_it walk_enum (fun i H' => Same H5 H' ∧ H' pA = some (.dK (placesF 0 ((ps.take i).map Prod.fst)))) ⟨Same.new hD, upd_same⟩ (fun i H' _ h => SqL.of (h.1 _ _ (j5.fl _ List.mem_cons_self))) ?_ ?_
          · rintro i x H' H'' hi ⟨sm', hl⟩ ⟨T0', v1, v2, rfl, hT0', rfl, hv1, hv2⟩
            cases hv1
            have hv2 : (ps.map fun q => V.str q.1)[i]? = some v2 := hv2
            rw [List.getElem?_map] at hv2
            cases hq3 : ps[i]? with
            | none => rw [hq3] at hv2; cases hv2
            | some q =>
              rw [hq3] at hv2
              cases hv2
              have hil : i < ps.length := (List.getElem?_eq_some_iff.mp hq3).1
              have hnd := marks_nodup List.nodup_nil hopt
              have hfr : ¬ q.1 ∈ (ps.take i).map Prod.fst := fun z => by
                have e1 : (ps.map Prod.fst) = ((ps.take i).map Prod.fst) ++ ((ps.drop i).map Prod.fst) := by rw [← List.map_append, List.take_append_drop]
                rw [e1, List.nodup_append] at hnd
                refine hnd.2.2 _ z q.1 ?_ rfl
                have : ps.drop i = q :: ps.drop (i + 1) := by
                  rw [List.drop_eq_getElem_cons hil]
                  congr 1
                  have := List.getElem?_eq_getElem hil
                  rw [hq3] at this
                  exact (Option.some.inj this).symm
                rw [this]
                exact List.mem_cons_self
              have hlT : upd H' T0' (.tup [.int (i : Nat), .str q.1]) pA = some (.dK (placesF 0 ((ps.take i).map Prod.fst))) := Same.new hT0' _ _ hl
              refine ⟨T0', _, rfl, SqT.of upd_same, rfl, ?_⟩
              refine ⟨_, _, rfl, _, _, rfl, rfl, ?_⟩
              refine ⟨rfl, ?_⟩
              refine ⟨_, rfl, _, rfl, _, Sum.inr q.1, rfl, hlT, ?_, Same.at (sm'.trans (Same.new hT0')) hD, ?_⟩
              · have : (placesF 0 ((ps.take i).map Prod.fst)).length ≤ 1000 := by
                  have := congrArg List.length (placesF_keys 0 ((ps.take i).map Prod.fst))
                  rw [List.length_map, List.length_map, List.length_map, List.length_take] at this
                  omega
                exact Nat.lt_of_le_of_lt this (by decide)
              · rw [upd_same, List.take_add_one, hq3, List.map_append]
                have e4 : (((ps.take i).map Prod.fst).length : Nat) = i := by rw [List.length_map, List.length_take]; omega
                have := placesF_put ((ps.take i).map Prod.fst) q.1 hfr
                rw [e4] at this
                rw [this]
                rfl
          · rintro H6 ⟨sm6, hl6⟩
            have hl6 : H6 pA = some (.dK (placesK (ps.map Prod.fst))) := by
              have e3 : (ps.take (ps.map fun q => V.str q.1).length) = ps := by rw [List.length_map, List.take_length]
              have hl6 : H6 pA = some (.dK (placesF 0 ((ps.take (ps.map fun q => V.str q.1).length).map Prod.fst))) := hl6
              rw [e3] at hl6
              exact hl6
            have j6 := (j5.same sm6).addD hl6
            refine ⟨_, rfl, self, Z.C, dx, _, rfl, j6.fs_, Z.cl, Z.no _ (by decide +kernel), by show 2 < 1000; decide, ?_⟩
            have q3 : putF "places" (V.ref pA) [("names", V.ref nA), ("hands", V.ref hA)] = ([("names", V.ref nA), ("hands", V.ref hA), ("places", V.ref pA)] : List (Str × V)) := putF_new (show ¬ ("places" : Str) ∈ (["names", "hands"] : List Str) by decide +kernel)
            rw [q3]
            have j7 := j6.store n0 [("names", V.ref nA), ("hands", V.ref hA), ("places", V.ref pA)]
            generalize upd H6 self (.ins Z.C dx [("names", V.ref nA), ("hands", V.ref hA), ("places", V.ref pA)]) = H7 at j7 ⊢
            have hp7 := j7.fd_ _ List.mem_cons_self
            refine ⟨_, rfl, self, Z.C, dx, _, _, rfl, j7.fs_, Z.cl, Z.no _ (by decide +kernel), rfl, _, rfl, S, dw, _, pA, ps.map Prod.fst, rfl, j7.fd_ _ List.mem_cons_self, rw_.extN j7.fe, wii.2, fun H8 s8 => ?_⟩
            have j8 := j7.same s8
            refine ⟨_, rfl, _, rfl, ?_⟩
            cases ec8 : firstClause (ps.map Prod.fst) dw with
            | some i =>
              refine iteT ?_
              refine ⟨_, rfl, (by show 1 ≤ 1000; decide), fun a ha => ⟨a, .int (i : Nat), rfl, upd_same, fun d h1 h2 => ⟨rfl, d, [("index", .int (i : Nat))], upd_same, (by rw [upd_ne h2]; exact upd_same), ?_, ?_⟩⟩⟩
              · rw [upd_ne h2] at h1
                exact h1
              · have es := err_same (y := exd d [("index", .int (i : Nat))]) (z := exo a Y.e3.C (some d)) (u := .xd [("index", .int (i : Nat))]) ha h1
                exact k3 ps i hps ec8 _ d (j8.fe.trans (extN_of es)) (j8.ft.ext es) upd_same
            | none =>
            refine iteF ?_
            obtain ⟨cw, hcw⟩ := isClauses_of ec8
            refine ⟨_, rfl, self, Z.C, dx, _, _, rfl, j8.fs_, Z.cl, Z.no _ (by decide +kernel), rfl, _, rfl, S, dg, _, pA, ps.map Prod.fst, rfl, j8.fd_ _ List.mem_cons_self, rg.extN j8.fe, gii.2, fun H9 s9 => ?_⟩
            have j9 := j8.same s9
            refine ⟨_, rfl, _, rfl, ?_⟩
            cases ec9 : firstClause (ps.map Prod.fst) dg with
            | some i =>
              refine iteT ?_
              refine ⟨_, rfl, (by show 1 ≤ 1000; decide), fun a ha => ⟨a, .int (i : Nat), rfl, upd_same, fun d h1 h2 => ⟨rfl, d, [("index", .int (i : Nat))], upd_same, (by rw [upd_ne h2]; exact upd_same), ?_, ?_⟩⟩⟩
              · rw [upd_ne h2] at h1
                exact h1
              · have es := err_same (y := exd d [("index", .int (i : Nat))]) (z := exo a Y.e4.C (some d)) (u := .xd [("index", .int (i : Nat))]) ha h1
                exact k4 ps cw i hps hcw ec9 _ d (j9.fe.trans (extN_of es)) (j9.ft.ext es) upd_same
            | none =>
            refine iteF ?_
            obtain ⟨cg, hcg⟩ := isClauses_of ec9
            obtain ⟨dcw, hicw, hccw⟩ := id hcw
            have incw : ∀ c ∈ cw, (∀ l ∈ c, l.1 ∈ ps.map Prod.fst) ∧ c.length ≤ 1000 := fun c hc => by
              obtain ⟨n, hn⟩ := List.getElem?_of_mem hc
              have h1 := congrArg (fun l => l[n]?) hccw
              simp only [List.getElem?_map, hn, Option.map_some] at h1
              cases h2 : dcw[n]? with
              | none => rw [h2] at h1; cases h1
              | some x =>
                rw [h2] at h1
                exact litsOf_in (Option.some.inj h1) (wii.2 _ hicw x (List.mem_of_getElem? h2))
            have szcw : dcw.length ≤ 1000 := by
              have := wii.1
              unfold D.small at this
              rw [hicw] at this
              exact this
            refine ⟨_, rfl, self, Z.C, dx, _, _, rfl, j9.fs_, Z.cl, Z.no _ (by decide +kernel), rfl, _, rfl, S, dw, dcw, cw, _, pA, ps.map Prod.fst, rfl, j9.fd_ _ List.mem_cons_self, rw_.extN j9.fe, hicw, wii.2 _ hicw, szcw, hccw, incw, j9.ft, fun H10 rcw e10 t10 hrcw => ?_⟩
            obtain ⟨wA, vscw, rfl, ncw, hlcw, rrcw⟩ := id hrcw
            have j10 := (j9.ext e10 t10).addR (Rep.mono (fun a h => h.back j9.fe) (fun _ _ e _ => e) hrcw)
            refine ⟨_, rfl, self, Z.C, dx, _, rfl, j10.fs_, Z.cl, Z.no _ (by decide +kernel), by show 3 < 1000; decide, ?_⟩
            have q4 : putF "wish_lists" (V.ref wA) [("names", V.ref nA), ("hands", V.ref hA), ("places", V.ref pA)] = ([("names", V.ref nA), ("hands", V.ref hA), ("places", V.ref pA), ("wish_lists", V.ref wA)] : List (Str × V)) := putF_new (show ¬ ("wish_lists" : Str) ∈ (["names", "hands", "places"] : List Str) by decide +kernel)
            rw [q4]
            have j11 := j10.store n0 [("names", V.ref nA), ("hands", V.ref hA), ("places", V.ref pA), ("wish_lists", V.ref wA)]
            generalize upd H10 self (.ins Z.C dx [("names", V.ref nA), ("hands", V.ref hA), ("places", V.ref pA), ("wish_lists", V.ref wA)]) = H11 at j11 ⊢
            obtain ⟨dcg, hicg, hccg⟩ := id hcg
            have incg : ∀ c ∈ cg, (∀ l ∈ c, l.1 ∈ ps.map Prod.fst) ∧ c.length ≤ 1000 := fun c hc => by
              obtain ⟨n, hn⟩ := List.getElem?_of_mem hc
              have h1 := congrArg (fun l => l[n]?) hccg
              simp only [List.getElem?_map, hn, Option.map_some] at h1
              cases h2 : dcg[n]? with
              | none => rw [h2] at h1; cases h1
              | some x =>
                rw [h2] at h1
                exact litsOf_in (Option.some.inj h1) (gii.2 _ hicg x (List.mem_of_getElem? h2))
            have szcg : dcg.length ≤ 1000 := by
              have := gii.1
              unfold D.small at this
              rw [hicg] at this
              exact this
            refine ⟨_, rfl, self, Z.C, dx, _, _, rfl, j11.fs_, Z.cl, Z.no _ (by decide +kernel), rfl, _, rfl, S, dg, dcg, cg, _, pA, ps.map Prod.fst, rfl, j11.fd_ _ List.mem_cons_self, rg.extN j11.fe, hicg, gii.2 _ hicg, szcg, hccg, incg, j11.ft, fun H12 rcg e12 t12 hrcg => ?_⟩
            obtain ⟨gA, vscg, rfl, ncg, hlcg, rrcg⟩ := id hrcg
            have j12 := (j11.ext e12 t12).addR (Rep.mono (fun a h => h.back j11.fe) (fun _ _ e _ => e) hrcg)
            refine ⟨_, rfl, self, Z.C, dx, _, rfl, j12.fs_, Z.cl, Z.no _ (by decide +kernel), by show 4 < 1000; decide, ?_⟩
            have q5 : putF "guard_lists" (V.ref gA) [("names", V.ref nA), ("hands", V.ref hA), ("places", V.ref pA), ("wish_lists", V.ref wA)] = ([("names", V.ref nA), ("hands", V.ref hA), ("places", V.ref pA), ("wish_lists", V.ref wA), ("guard_lists", V.ref gA)] : List (Str × V)) := putF_new (show ¬ ("guard_lists" : Str) ∈ (["names", "hands", "places", "wish_lists"] : List Str) by decide +kernel)
            rw [q5]
            have j13 := j12.store n0 [("names", V.ref nA), ("hands", V.ref hA), ("places", V.ref pA), ("wish_lists", V.ref wA), ("guard_lists", V.ref gA)]
            generalize upd H12 self (.ins Z.C dx [("names", V.ref nA), ("hands", V.ref hA), ("places", V.ref pA), ("wish_lists", V.ref wA), ("guard_lists", V.ref gA)]) = H13 at j13 ⊢
            have hpl : (ps.map Prod.fst).length ≤ 1000 := by rw [List.length_map]; omega
            obtain ⟨_, vs13, e13, n13, hl13, rr13⟩ := j13.fr (clausesD (cw.map (sortLits (ps.map Prod.fst))), .ref wA) (by simp)
            cases e13
            refine ⟨_, rfl, self, Z.C, dx, _, _, rfl, j13.fs_, Z.cl, Z.no _ (by decide +kernel), rfl, wA, rfl, ⟨vs13, SqL.of hl13⟩, fun c1 hc13 => ?_⟩
            refine lc_list (K := K) (a := wA) (xs := vs13) (fun i H' => Same H13 H' ∧ H' c1 = some (.lst (((cw.map (sortLits (ps.map Prod.fst))).take i).map fun c => V.int (codeOf (ps.map Prod.fst) false c)))) ⟨Same.new hc13, upd_same⟩ (fun i H' _ h => SqL.of (h.1 _ _ hl13)) ?_ ?_
            · rintro i y H' hy ⟨sm', hl⟩
              obtain ⟨dy, hdy, hry⟩ := (rr13.same sm').get hy
              rw [List.getElem?_map] at hdy
              cases hcy : ((cw.map (sortLits (ps.map Prod.fst))))[i]? with
              | none => rw [hcy] at hdy; cases hdy
              | some c =>
                rw [hcy] at hdy
                cases hdy
                have jj := j13.same sm'
                refine ⟨rfl, ?_⟩
                refine ⟨_, rfl, self, Z.C, dx, _, _, rfl, jj.fs_, Z.cl, Z.no _ (by decide +kernel), rfl, _, rfl, _, c, y, pA, ps.map Prod.fst, rfl, jj.fd_ _ List.mem_cons_self, hry, fun l hl2 => ?_, hpl, _, hl, ?_, Same.at sm' hc13, ?_⟩
                · obtain ⟨c0, h1, h2⟩ := List.mem_map.mp (List.mem_of_getElem? hcy)
                  rw [← h2] at hl2
                  exact (incw c0 h1).1 l (List.mem_mergeSort.mp hl2)
                · have h3 : i < (cw.map (sortLits (ps.map Prod.fst))).length := (List.getElem?_eq_some_iff.mp hcy).1
                  rw [List.length_map] at h3
                  have h4 := congrArg List.length hccw
                  rw [List.length_map, List.length_map] at h4
                  rw [List.length_map, List.length_take]
                  exact Nat.lt_of_le_of_lt (Nat.min_le_left _ _) (Nat.lt_of_lt_of_le h3 (Nat.le_trans (by omega : cw.length ≤ 1000) (by decide)))
                · rw [upd_same, List.take_add_one, hcy, List.map_append]
                  rfl
            rintro H14 ⟨sm13, ho13⟩
            have ev13 : vs13.length = (cw.map (sortLits (ps.map Prod.fst))).length := by rw [rr13.length, List.length_map]
            rw [ev13, List.take_length] at ho13
            have j14 := (j13.same sm13).addR (d := codesD (ps.map Prod.fst) false (cw.map (sortLits (ps.map Prod.fst)))) (v := .ref c1) ⟨c1, _, rfl, newN_of j13.fe hc13, ho13, reps_map fun _ _ => rfl⟩
            refine ⟨_, rfl, self, Z.C, dx, _, rfl, j14.fs_, Z.cl, Z.no _ (by decide +kernel), by show 5 < 1000; decide, ?_⟩
            have q6 : putF "wish_codes" (V.ref c1) [("names", V.ref nA), ("hands", V.ref hA), ("places", V.ref pA), ("wish_lists", V.ref wA), ("guard_lists", V.ref gA)] = ([("names", V.ref nA), ("hands", V.ref hA), ("places", V.ref pA), ("wish_lists", V.ref wA), ("guard_lists", V.ref gA), ("wish_codes", V.ref c1)] : List (Str × V)) := putF_new (show ¬ ("wish_codes" : Str) ∈ (["names", "hands", "places", "wish_lists", "guard_lists"] : List Str) by decide +kernel)
            rw [q6]
            have j15 := j14.store n0 [("names", V.ref nA), ("hands", V.ref hA), ("places", V.ref pA), ("wish_lists", V.ref wA), ("guard_lists", V.ref gA), ("wish_codes", V.ref c1)]
            generalize upd H14 self (.ins Z.C dx [("names", V.ref nA), ("hands", V.ref hA), ("places", V.ref pA), ("wish_lists", V.ref wA), ("guard_lists", V.ref gA), ("wish_codes", V.ref c1)]) = H15 at j15 ⊢
            obtain ⟨_, vs15, e15, n15, hl15, rr15⟩ := j15.fr (clausesD (cw.map (sortLits (ps.map Prod.fst))), .ref wA) (by simp)
            cases e15
            refine ⟨_, rfl, self, Z.C, dx, _, _, rfl, j15.fs_, Z.cl, Z.no _ (by decide +kernel), rfl, wA, rfl, ⟨vs15, SqL.of hl15⟩, fun c2 hc15 => ?_⟩
            refine lc_list (K := K) (a := wA) (xs := vs15) (fun i H' => Same H15 H' ∧ H' c2 = some (.lst (((cw.map (sortLits (ps.map Prod.fst))).take i).map fun c => V.int (codeOf (ps.map Prod.fst) true c)))) ⟨Same.new hc15, upd_same⟩ (fun i H' _ h => SqL.of (h.1 _ _ hl15)) ?_ ?_
            · rintro i y H' hy ⟨sm', hl⟩
              obtain ⟨dy, hdy, hry⟩ := (rr15.same sm').get hy
              rw [List.getElem?_map] at hdy
              cases hcy : ((cw.map (sortLits (ps.map Prod.fst))))[i]? with
              | none => rw [hcy] at hdy; cases hdy
              | some c =>
                rw [hcy] at hdy
                cases hdy
                have jj := j15.same sm'
                refine ⟨rfl, ?_⟩
                refine ⟨_, rfl, self, Z.C, dx, _, _, rfl, jj.fs_, Z.cl, Z.no _ (by decide +kernel), rfl, _, rfl, _, c, y, pA, ps.map Prod.fst, rfl, jj.fd_ _ List.mem_cons_self, hry, fun l hl2 => ?_, hpl, _, hl, ?_, Same.at sm' hc15, ?_⟩
                · obtain ⟨c0, h1, h2⟩ := List.mem_map.mp (List.mem_of_getElem? hcy)
                  rw [← h2] at hl2
                  exact (incw c0 h1).1 l (List.mem_mergeSort.mp hl2)
                · have h3 : i < (cw.map (sortLits (ps.map Prod.fst))).length := (List.getElem?_eq_some_iff.mp hcy).1
                  rw [List.length_map] at h3
                  have h4 := congrArg List.length hccw
                  rw [List.length_map, List.length_map] at h4
                  rw [List.length_map, List.length_take]
                  exact Nat.lt_of_le_of_lt (Nat.min_le_left _ _) (Nat.lt_of_lt_of_le h3 (Nat.le_trans (by omega : cw.length ≤ 1000) (by decide)))
                · rw [upd_same, List.take_add_one, hcy, List.map_append]
                  rfl
            rintro H16 ⟨sm15, ho15⟩
            have ev15 : vs15.length = (cw.map (sortLits (ps.map Prod.fst))).length := by rw [rr15.length, List.length_map]
            rw [ev15, List.take_length] at ho15
            have j16 := (j15.same sm15).addR (d := codesD (ps.map Prod.fst) true (cw.map (sortLits (ps.map Prod.fst)))) (v := .ref c2) ⟨c2, _, rfl, newN_of j15.fe hc15, ho15, reps_map fun _ _ => rfl⟩
            refine ⟨_, rfl, self, Z.C, dx, _, rfl, j16.fs_, Z.cl, Z.no _ (by decide +kernel), by show 6 < 1000; decide, ?_⟩
            have q7 : putF "wish_turns" (V.ref c2) [("names", V.ref nA), ("hands", V.ref hA), ("places", V.ref pA), ("wish_lists", V.ref wA), ("guard_lists", V.ref gA), ("wish_codes", V.ref c1)] = ([("names", V.ref nA), ("hands", V.ref hA), ("places", V.ref pA), ("wish_lists", V.ref wA), ("guard_lists", V.ref gA), ("wish_codes", V.ref c1), ("wish_turns", V.ref c2)] : List (Str × V)) := putF_new (show ¬ ("wish_turns" : Str) ∈ (["names", "hands", "places", "wish_lists", "guard_lists", "wish_codes"] : List Str) by decide +kernel)
            rw [q7]
            have j17 := j16.store n0 [("names", V.ref nA), ("hands", V.ref hA), ("places", V.ref pA), ("wish_lists", V.ref wA), ("guard_lists", V.ref gA), ("wish_codes", V.ref c1), ("wish_turns", V.ref c2)]
            generalize upd H16 self (.ins Z.C dx [("names", V.ref nA), ("hands", V.ref hA), ("places", V.ref pA), ("wish_lists", V.ref wA), ("guard_lists", V.ref gA), ("wish_codes", V.ref c1), ("wish_turns", V.ref c2)]) = H17 at j17 ⊢
            obtain ⟨_, vs17, e17, n17, hl17, rr17⟩ := j17.fr (clausesD (cg.map (sortLits (ps.map Prod.fst))), .ref gA) (by simp)
            cases e17
            refine ⟨_, rfl, self, Z.C, dx, _, _, rfl, j17.fs_, Z.cl, Z.no _ (by decide +kernel), rfl, gA, rfl, ⟨vs17, SqL.of hl17⟩, fun c3 hc17 => ?_⟩
            refine lc_list (K := K) (a := gA) (xs := vs17) (fun i H' => Same H17 H' ∧ H' c3 = some (.lst (((cg.map (sortLits (ps.map Prod.fst))).take i).map fun c => V.int (codeOf (ps.map Prod.fst) false c)))) ⟨Same.new hc17, upd_same⟩ (fun i H' _ h => SqL.of (h.1 _ _ hl17)) ?_ ?_
            · rintro i y H' hy ⟨sm', hl⟩
              obtain ⟨dy, hdy, hry⟩ := (rr17.same sm').get hy
              rw [List.getElem?_map] at hdy
              cases hcy : ((cg.map (sortLits (ps.map Prod.fst))))[i]? with
              | none => rw [hcy] at hdy; cases hdy
              | some c =>
                rw [hcy] at hdy
                cases hdy
                have jj := j17.same sm'
                refine ⟨rfl, ?_⟩
                refine ⟨_, rfl, self, Z.C, dx, _, _, rfl, jj.fs_, Z.cl, Z.no _ (by decide +kernel), rfl, _, rfl, _, c, y, pA, ps.map Prod.fst, rfl, jj.fd_ _ List.mem_cons_self, hry, fun l hl2 => ?_, hpl, _, hl, ?_, Same.at sm' hc17, ?_⟩
                · obtain ⟨c0, h1, h2⟩ := List.mem_map.mp (List.mem_of_getElem? hcy)
                  rw [← h2] at hl2
                  exact (incg c0 h1).1 l (List.mem_mergeSort.mp hl2)
                · have h3 : i < (cg.map (sortLits (ps.map Prod.fst))).length := (List.getElem?_eq_some_iff.mp hcy).1
                  rw [List.length_map] at h3
                  have h4 := congrArg List.length hccg
                  rw [List.length_map, List.length_map] at h4
                  rw [List.length_map, List.length_take]
                  exact Nat.lt_of_le_of_lt (Nat.min_le_left _ _) (Nat.lt_of_lt_of_le h3 (Nat.le_trans (by omega : cg.length ≤ 1000) (by decide)))
                · rw [upd_same, List.take_add_one, hcy, List.map_append]
                  rfl
            rintro H18 ⟨sm17, ho17⟩
            have ev17 : vs17.length = (cg.map (sortLits (ps.map Prod.fst))).length := by rw [rr17.length, List.length_map]
            rw [ev17, List.take_length] at ho17
            have j18 := (j17.same sm17).addR (d := codesD (ps.map Prod.fst) false (cg.map (sortLits (ps.map Prod.fst)))) (v := .ref c3) ⟨c3, _, rfl, newN_of j17.fe hc17, ho17, reps_map fun _ _ => rfl⟩
            refine ⟨_, rfl, self, Z.C, dx, _, rfl, j18.fs_, Z.cl, Z.no _ (by decide +kernel), by show 7 < 1000; decide, ?_⟩
            have q8 : putF "guard_codes" (V.ref c3) [("names", V.ref nA), ("hands", V.ref hA), ("places", V.ref pA), ("wish_lists", V.ref wA), ("guard_lists", V.ref gA), ("wish_codes", V.ref c1), ("wish_turns", V.ref c2)] = ([("names", V.ref nA), ("hands", V.ref hA), ("places", V.ref pA), ("wish_lists", V.ref wA), ("guard_lists", V.ref gA), ("wish_codes", V.ref c1), ("wish_turns", V.ref c2), ("guard_codes", V.ref c3)] : List (Str × V)) := putF_new (show ¬ ("guard_codes" : Str) ∈ (["names", "hands", "places", "wish_lists", "guard_lists", "wish_codes", "wish_turns"] : List Str) by decide +kernel)
            rw [q8]
            have j19 := j18.store n0 [("names", V.ref nA), ("hands", V.ref hA), ("places", V.ref pA), ("wish_lists", V.ref wA), ("guard_lists", V.ref gA), ("wish_codes", V.ref c1), ("wish_turns", V.ref c2), ("guard_codes", V.ref c3)]
            generalize upd H18 self (.ins Z.C dx [("names", V.ref nA), ("hands", V.ref hA), ("places", V.ref pA), ("wish_lists", V.ref wA), ("guard_lists", V.ref gA), ("wish_codes", V.ref c1), ("wish_turns", V.ref c2), ("guard_codes", V.ref c3)]) = H19 at j19 ⊢
            obtain ⟨_, vs19, e19, n19, hl19, rr19⟩ := j19.fr (clausesD (cg.map (sortLits (ps.map Prod.fst))), .ref gA) (by simp)
            cases e19
            refine ⟨_, rfl, self, Z.C, dx, _, _, rfl, j19.fs_, Z.cl, Z.no _ (by decide +kernel), rfl, gA, rfl, ⟨vs19, SqL.of hl19⟩, fun c4 hc19 => ?_⟩
            refine lc_list (K := K) (a := gA) (xs := vs19) (fun i H' => Same H19 H' ∧ H' c4 = some (.lst (((cg.map (sortLits (ps.map Prod.fst))).take i).map fun c => V.int (codeOf (ps.map Prod.fst) true c)))) ⟨Same.new hc19, upd_same⟩ (fun i H' _ h => SqL.of (h.1 _ _ hl19)) ?_ ?_
            · rintro i y H' hy ⟨sm', hl⟩
              obtain ⟨dy, hdy, hry⟩ := (rr19.same sm').get hy
              rw [List.getElem?_map] at hdy
              cases hcy : ((cg.map (sortLits (ps.map Prod.fst))))[i]? with
              | none => rw [hcy] at hdy; cases hdy
              | some c =>
                rw [hcy] at hdy
                cases hdy
                have jj := j19.same sm'
                refine ⟨rfl, ?_⟩
                refine ⟨_, rfl, self, Z.C, dx, _, _, rfl, jj.fs_, Z.cl, Z.no _ (by decide +kernel), rfl, _, rfl, _, c, y, pA, ps.map Prod.fst, rfl, jj.fd_ _ List.mem_cons_self, hry, fun l hl2 => ?_, hpl, _, hl, ?_, Same.at sm' hc19, ?_⟩
                · obtain ⟨c0, h1, h2⟩ := List.mem_map.mp (List.mem_of_getElem? hcy)
                  rw [← h2] at hl2
                  exact (incg c0 h1).1 l (List.mem_mergeSort.mp hl2)
                · have h3 : i < (cg.map (sortLits (ps.map Prod.fst))).length := (List.getElem?_eq_some_iff.mp hcy).1
                  rw [List.length_map] at h3
                  have h4 := congrArg List.length hccg
                  rw [List.length_map, List.length_map] at h4
                  rw [List.length_map, List.length_take]
                  exact Nat.lt_of_le_of_lt (Nat.min_le_left _ _) (Nat.lt_of_lt_of_le h3 (Nat.le_trans (by omega : cg.length ≤ 1000) (by decide)))
                · rw [upd_same, List.take_add_one, hcy, List.map_append]
                  rfl
            rintro H20 ⟨sm19, ho19⟩
            have ev19 : vs19.length = (cg.map (sortLits (ps.map Prod.fst))).length := by rw [rr19.length, List.length_map]
            rw [ev19, List.take_length] at ho19
            have j20 := (j19.same sm19).addR (d := codesD (ps.map Prod.fst) true (cg.map (sortLits (ps.map Prod.fst)))) (v := .ref c4) ⟨c4, _, rfl, newN_of j19.fe hc19, ho19, reps_map fun _ _ => rfl⟩
            refine ⟨_, rfl, self, Z.C, dx, _, rfl, j20.fs_, Z.cl, Z.no _ (by decide +kernel), by show 8 < 1000; decide, ?_⟩
            have q9 : putF "guard_turns" (V.ref c4) [("names", V.ref nA), ("hands", V.ref hA), ("places", V.ref pA), ("wish_lists", V.ref wA), ("guard_lists", V.ref gA), ("wish_codes", V.ref c1), ("wish_turns", V.ref c2), ("guard_codes", V.ref c3)] = ([("names", V.ref nA), ("hands", V.ref hA), ("places", V.ref pA), ("wish_lists", V.ref wA), ("guard_lists", V.ref gA), ("wish_codes", V.ref c1), ("wish_turns", V.ref c2), ("guard_codes", V.ref c3), ("guard_turns", V.ref c4)] : List (Str × V)) := putF_new (show ¬ ("guard_turns" : Str) ∈ (["names", "hands", "places", "wish_lists", "guard_lists", "wish_codes", "wish_turns", "guard_codes"] : List Str) by decide +kernel)
            rw [q9]
            have j21 := j20.store n0 [("names", V.ref nA), ("hands", V.ref hA), ("places", V.ref pA), ("wish_lists", V.ref wA), ("guard_lists", V.ref gA), ("wish_codes", V.ref c1), ("wish_turns", V.ref c2), ("guard_codes", V.ref c3), ("guard_turns", V.ref c4)]
            generalize upd H20 self (.ins Z.C dx [("names", V.ref nA), ("hands", V.ref hA), ("places", V.ref pA), ("wish_lists", V.ref wA), ("guard_lists", V.ref gA), ("wish_codes", V.ref c1), ("wish_turns", V.ref c2), ("guard_codes", V.ref c3), ("guard_turns", V.ref c4)]) = H21 at j21 ⊢
            exact k ps cw cg hps hcw hcg _ j21.fe j21.ft ⟨dx, nA, hA, pA, wA, gA, c1, c2, c3, c4, j21.fs_, j21.fr _ (List.mem_cons_of_mem _ (List.mem_cons_of_mem _ (List.mem_cons_of_mem _ (List.mem_cons_of_mem _ (List.mem_cons_of_mem _ (List.mem_cons_of_mem _ (List.mem_cons_of_mem _ List.mem_cons_self))))))), j21.fr _ (List.mem_cons_of_mem _ (List.mem_cons_of_mem _ (List.mem_cons_of_mem _ (List.mem_cons_of_mem _ (List.mem_cons_of_mem _ (List.mem_cons_of_mem _ List.mem_cons_self)))))), j21.fd_ _ List.mem_cons_self, j21.fr _ (List.mem_cons_of_mem _ (List.mem_cons_of_mem _ (List.mem_cons_of_mem _ (List.mem_cons_of_mem _ (List.mem_cons_of_mem _ List.mem_cons_self))))), j21.fr _ (List.mem_cons_of_mem _ (List.mem_cons_of_mem _ (List.mem_cons_of_mem _ (List.mem_cons_of_mem _ List.mem_cons_self)))), j21.fr _ (List.mem_cons_of_mem _ (List.mem_cons_of_mem _ (List.mem_cons_of_mem _ List.mem_cons_self))), j21.fr _ (List.mem_cons_of_mem _ (List.mem_cons_of_mem _ List.mem_cons_self)), j21.fr _ (List.mem_cons_of_mem _ List.mem_cons_self), j21.fr _ List.mem_cons_self⟩
end
end Q1

set_option Elab.async false
set_option maxRecDepth 100000
set_option maxHeartbeats 4000000
namespace Q1
open PySem PySem.Spec PyProof.Rows L2
/-! ### list(zip(a, b)) -/
theorem zip_nolen : typeLookup (.type "zip") "__len__" = pure none := by rw [typeLookup_type, builtinLookup_eq_fast]; kernel_rfl
theorem zip_nohint : typeLookup (.type "zip") "__length_hint__" = pure none := by rw [typeLookup_type, builtinLookup_eq_fast]; kernel_rfl
theorem fpOk_upd {X : Cx} {pins : List (Addr × Obj)} {H : Hp} {b p : Addr} {o : HO} (h : FpOk X pins H b) (n : b ≠ p) : FpOk X pins (upd H p o) b := ⟨by rw [upd_ne n]; exact h.1, h.2⟩
/-- the pairs of a beginning of two lists -/
def PairsAt (H : Hp) (xs ys : List V) (ps : List Addr) : Prop := ∀ (j : Nat) (p : Addr), ps[j]? = some p → ∃ x y, xs[j]? = some x ∧ ys[j]? = some y ∧ H p = some (.tup [x, y])
theorem PairsAt.same {H H' : Hp} {xs ys : List V} {ps : List Addr} (h : PairsAt H xs ys ps) (e : Same H H') : PairsAt H' xs ys ps := fun j p q => by
  obtain ⟨x, y, h1, h2, h3⟩ := h j p q
  exact ⟨x, y, h1, h2, e _ _ h3⟩
theorem PairsAt.snoc {H : Hp} {xs ys : List V} {ps : List Addr} {p : Addr} {x y : V} (h : PairsAt H xs ys ps) (hx : xs[ps.length]? = some x) (hy : ys[ps.length]? = some y) (hp : H p = some (.tup [x, y])) : PairsAt H xs ys (ps ++ [p]) := fun j q e => by
  by_cases hj : j < ps.length
  · rw [List.getElem?_append_left hj] at e
    exact h j q e
  · rw [List.getElem?_append_right (by omega)] at e
    have e2 : j - ps.length = 0 := by
      cases k : j - ps.length with
      | zero => rfl
      | succ n => rw [k] at e; cases e
    rw [e2] at e
    cases (show some p = some q from e)
    have : j = ps.length := by omega
    subst this
    exact ⟨x, y, hx, hy, hp⟩
/-- a list's record -/
def listO (acc : Array Value) (n : Nat) : Obj := { cls := .type "list", dict := none, data := .seq acc n, slots := #[] }
/-- the zip's own record: its tuple free, or handed out and kept -/
def ZSt (H : Hp) (h : Heap) (z TI TO : Addr) : Prop := (IsZip h z TI TO .none ∧ ∃ x y, IsPair h TO x y) ∨ ∃ (T : Addr) (f : Bool) (oT : Obj), IsZipHeld h z TI TO T f ∧ h.get? T = some oT ∧ (∃ u, H T = some u) ∧ ∃ o, h.get? TO = some o
theorem zip_turn {X : Cx} {A : Around} {pins : List (Addr × Obj)} {σ : L2.St} {H : Hp} {s : Shared} {z TI TO i1 i2 a b : Addr} {i : Nat} {xs ys : List V} {x y : V} {Q : Option Value → Shared → Prop} {E : Value → Shared → Prop} (D : ZipApart z TI TO i1 i2 a b)
    (I : Inv X pins σ H s) (hf : ∀ c ∈ [z, TI, TO, i1, i2], FpOk X pins H c) (hqx : SqL X.K H a xs) (hqy : SqL X.K H b ys) (hx : xs[i]? = some x) (hy : ys[i]? = some y)
    (hz : ZSt H s.heap z TI TO) (hTI : IsPair s.heap TI (.ref i1) (.ref i2)) (h1 : s.heap.IsListIter i1 a i) (h2 : s.heap.IsListIter i2 b i)
    (hQ : ∀ h', Inv X pins σ (upd H s.heap.objs.size (.tup [x, y])) { s with heap := h' } → ZSt (upd H s.heap.objs.size (.tup [x, y])) h' z TI TO → IsPair h' TI (.ref i1) (.ref i2) → h'.IsListIter i1 a (i + 1) → h'.IsListIter i2 b (i + 1) →
      (∀ c o, c ≠ z → c ≠ TO → c ≠ i1 → c ≠ i2 → s.heap.get? c = some o → h'.get? c = some o) → Q (some (.ref s.heap.objs.size)) { s with heap := h' }) :
    wpAny (model X.prog X.w) A (pyNext (.ref z)) Q E s := by
  obtain ⟨its, rv, p, _⟩ := I.list hqx
  obtain ⟨its2, rv2, p2, _⟩ := I.list hqy
  obtain ⟨u, hu, ru⟩ := rv.get hx
  obtain ⟨u2, hu2, ru2⟩ := rv2.get hy
  have new : ∀ h', IsPair h' s.heap.objs.size u u2 → ObjOk X.prog X.w (upd H s.heap.objs.size (.tup [x, y])) h' s.heap.objs.size (.tup [x, y]) := fun h' hT =>
    ⟨by show 2 ≤ sizeLine; decide, [u, u2], .cons ru (.cons ru2 .nil), ⟨_, hT, rfl, _, rfl⟩⟩
  have fin : ∀ h', (∀ c o, c ≠ z → c ≠ TO → c ≠ i1 → c ≠ i2 → s.heap.get? c = some o → h'.get? c = some o) → IsPair h' s.heap.objs.size u u2 → h'.IsListIter i1 a (i + 1) → h'.IsListIter i2 b (i + 1) → ZSt (upd H s.heap.objs.size (.tup [x, y])) h' z TI TO → Q (some (.ref s.heap.objs.size)) { s with heap := h' } := fun h' hk hT h1' h2' hz' =>
    hQ h' (I.turnedNew (t' := s.toks) (ch := [z, TI, TO, i1, i2]) (fun c o hb q => hk c o (fun q' => hb (by simp [q'])) (fun q' => hb (by simp [q'])) (fun q' => hb (by simp [q'])) (fun q' => hb (by simp [q'])) q) hf (Nat.le_refl _) (new h' hT))
      hz' (hk _ _ D.TIz D.TITO D.TIi1 D.TIi2 hTI) h1' h2' hk
  rcases hz with ⟨hz, x0, y0, hTO⟩ | ⟨T, f, oT, hz, hT, ⟨uT, hTu⟩, oO, hO⟩
  · refine wpAny_pyNext_zip_item D hz hTI hTO h1 h2 p.isList p2.isList (x := u) (y := u2) (by simpa using hu) (by simpa using hu2) fun h' z' TO' h1' h2' hT hsz hk => ?_
    exact fin h' hk hT h1' h2' (.inr ⟨s.heap.objs.size, false, _, z', hT, ⟨_, upd_same⟩, _, TO'⟩)
  · refine wpAny_pyNext_zip_item_held D hz hT hTI h1 h2 p.isList p2.isList (x := u) (y := u2) (by simpa using hu) (by simpa using hu2) fun h' z' h1' h2' hT2 hsz hk => ?_
    have nT : ∀ c ∈ [z, TI, TO, i1, i2], T ≠ c := fun c hc q => by
      have := (hf c hc).1
      rw [← q, hTu] at this
      cases this
    refine fin h' (fun c o c1 c2 c3 c4 => hk c o c1 c3 c4) hT2 h1' h2' (.inr ⟨T, true, oT, z', hk T oT (nT z (by simp)) (nT i1 (by simp)) (nT i2 (by simp)) hT, ⟨uT, ?_⟩, oO, hk TO oO D.TOz D.TOi1 D.TOi2 hO⟩)
    rw [upd_ne (Nat.ne_of_lt (Heap.lt_size hT))]
    exact hTu
theorem zip_stop {X : Cx} {A : Around} (hh : A.handled = none) {pins : List (Addr × Obj)} {σ : L2.St} {H : Hp} {s : Shared} {z TI TO i1 i2 a b : Addr} {i : Nat} {xs ys : List V} {Q : Option Value → Shared → Prop} {E : Value → Shared → Prop} (D : ZipApart z TI TO i1 i2 a b)
    (I : Inv X pins σ H s) (hf : ∀ c ∈ [z, TI, TO, i1, i2], FpOk X pins H c) (hqx : SqL X.K H a xs) (hqy : SqL X.K H b ys) (hi : xs.length ≤ i)
    (hz : ZSt H s.heap z TI TO) (hTI : IsPair s.heap TI (.ref i1) (.ref i2)) (h1 : s.heap.IsListIter i1 a i) (h2 : s.heap.IsListIter i2 b i)
    (hQ : ∀ h', Inv X pins σ H { s with heap := h' } → (∀ c o, c ≠ z → c ≠ TO → c ≠ i1 → c ≠ i2 → s.heap.get? c = some o → h'.get? c = some o) → Q none { s with heap := h' }) :
    wpAny (model X.prog X.w) A (pyNext (.ref z)) Q E s := by
  obtain ⟨its, rv, p, _⟩ := I.list hqx
  obtain ⟨its2, rv2, p2, _⟩ := I.list hqy
  have l1 := rv.length
  have he : its.toArray[i]? = none ∨ its2.toArray[i]? = none := .inl (by simp; omega)
  have fin : ∀ h', (∀ c o, c ≠ z → c ≠ TO → c ≠ i1 → c ≠ i2 → s.heap.get? c = some o → h'.get? c = some o) → Q none { s with heap := h' } := fun h' hk =>
    hQ h' (I.turnedL (t' := s.toks) (ch := [z, TI, TO, i1, i2]) (fun c o hb q => hk c o (fun q' => hb (by simp [q'])) (fun q' => hb (by simp [q'])) (fun q' => hb (by simp [q'])) (fun q' => hb (by simp [q'])) q) hf) hk
  rcases hz with ⟨hz, x0, y0, hTO⟩ | ⟨T, f, oT, hz, hT, ⟨uT, hTu⟩, oO, hO⟩
  · exact wpAny_pyNext_zip_end hh D hz hTI hTO h1 h2 p.isList p2.isList he fin
  · exact wpAny_pyNext_zip_end_held hh D hz hT hTI h1 h2 p.isList p2.isList he fun h' hk => fin h' fun c o c1 c2 c3 c4 => hk c o c1 c3 c4
theorem zip_drain {X : Cx} {A : Around} (hh : A.in1.handled = none) {R : Result → Shared → Prop} {pins : List (Addr × Obj)} {σ : L2.St} {z TI TO i1 i2 a b S : Addr} (D : ZipApart z TI TO i1 i2 a b) (hS : S ∉ [z, TI, TO, i1, i2]) {xs ys : List V} (hl : xs.length = ys.length) (hn : xs.length ≤ sizeLine) {res : Value} {H0 : Hp}
    (fin : ∀ H' s' acc c ps, Inv X pins σ H' s' → Same H0 H' → FpOk X pins H' S → s'.heap.get? S = some (listO acc c) → acc.toList = ps.map Value.ref → PairsAt H' xs ys ps → ps.length = xs.length → R (.ok (.ret res)) s') :
    ∀ (k i : Nat) (s : Shared) (H : Hp) (acc : Array Value) (c : Nat) (ps : List Addr), xs.length - i = k → i ≤ xs.length → Inv X pins σ H s → Same H0 H → SqL X.K H a xs → SqL X.K H b ys → (∀ c ∈ [z, TI, TO, i1, i2], FpOk X pins H c) → FpOk X pins H S → ZSt H s.heap z TI TO → IsPair s.heap TI (.ref i1) (.ref i2) →
      s.heap.IsListIter i1 a i → s.heap.IsListIter i2 b i → s.heap.get? S = some (listO acc c) → acc.toList = ps.map Value.ref → ps.length = i → PairsAt H xs ys ps → codeAny (model X.prog X.w) A (.builtin "list.extend.loop" ⟨[.ref S, .ref z, res], []⟩) R s
  | 0, i, s, H, acc, c, ps, hk, hi, I, s0, hqx, hqy, hf, hfS, hz, hTI, h1, h2, hSo, ha, hp, hP => by
    refine codeAny_builtin F.entry_extend_loop ?_
    rw [Around.under_plainId F.plain_extend_loop _]
    show wpAny _ A.in1 (pyNext (.ref z) >>= _) _ _ s
    refine wpAny_bind (zip_stop hh D I hf hqx hqy (by omega) hz hTI h1 h2 fun h' I' hk' => ?_)
    refine wpAny_pure (fin H _ acc c ps I' s0 hfS (hk' S _ ?_ ?_ ?_ ?_ hSo) ha hP (by omega)) <;> exact fun q => hS (by simp [q])
  | k + 1, i, s, H, acc, c, ps, hk, hi, I, s0, hqx, hqy, hf, hfS, hz, hTI, h1, h2, hSo, ha, hp, hP => by
    have hlt : i < xs.length := by omega
    obtain ⟨x, hx⟩ : ∃ x, xs[i]? = some x := ⟨xs[i], by simp [hlt]⟩
    obtain ⟨y, hy⟩ : ∃ y, ys[i]? = some y := ⟨ys[i]'(by omega), by simp⟩
    refine codeAny_builtin F.entry_extend_loop ?_
    rw [Around.under_plainId F.plain_extend_loop _]
    show wpAny _ A.in1 (pyNext (.ref z) >>= _) _ _ s
    refine wpAny_bind (zip_turn D I hf hqx hqy hx hy hz hTI h1 h2 fun h' I' hz' hTI' h1' h2' hk' => ?_)
    have hSo' : h'.get? S = some (listO acc c) := by refine hk' S _ ?_ ?_ ?_ ?_ hSo <;> exact fun q => hS (by simp [q])
    have hfr : H s.heap.objs.size = none := I.hok.fresh (Nat.le_refl _)
    have sm : Same H (upd H s.heap.objs.size (.tup [x, y])) := Same.new hfr
    have hlen : acc.size = i := by rw [← Array.length_toList, ha, List.length_map, hp]
    have hflt : ∀ c ∈ [z, TI, TO, i1, i2], c < s.heap.objs.size := fun c hc => by
      have e' : c = z ∨ c = TI ∨ c = TO ∨ c = i1 ∨ c = i2 := by simpa using hc
      rcases e' with q | q | q | q | q
      · rw [q]; rcases hz with ⟨hz, _⟩ | ⟨_, _, _, hz, _⟩ <;> exact Heap.lt_size hz
      · rw [q]; exact Heap.lt_size hTI
      · rw [q]; rcases hz with ⟨_, _, _, hz⟩ | ⟨_, _, _, _, _, _, _, hz⟩ <;> exact Heap.lt_size hz
      · rw [q]; obtain ⟨_, e1, _⟩ := h1; exact Heap.lt_size e1
      · rw [q]; obtain ⟨_, e2, _⟩ := h2; exact Heap.lt_size e2
    have hSlt : S < s.heap.objs.size := Heap.lt_size hSo
    show wpAny _ A.in1 (updateSeq S (·.push (.ref s.heap.objs.size)) >>= _) _ _ _
    have keep : ∀ b o, b ≠ S → h'.get? b = some o → (h'.update S (Obj.mapSeq (·.push (.ref s.heap.objs.size)))).get? b = some o := fun b o hb e => (Heap.get?_update_other _ _ (Ne.symm hb)).trans e
    have hfS' : FpOk X pins (upd H s.heap.objs.size (.tup [x, y])) S := fpOk_upd hfS (Nat.ne_of_lt hSlt)
    have I2 : Inv X pins σ (upd H s.heap.objs.size (.tup [x, y])) { s with heap := h'.update S (Obj.mapSeq (·.push (.ref s.heap.objs.size))) } :=
      Inv.turnedL (s := { s with heap := h' }) (t' := s.toks) (ch := [S]) I' (fun b o hb e => keep b o (by simpa using hb) e) (fun b hb => by rw [show b = S by simpa using hb]; exact hfS')
    refine wpAny_bind (wpAny_updateSeq hSo' rfl (wpAny_pure ⟨plainId_quiet F.plain_extend_loop _, zip_drain hh D hS hl hn fin k (i + 1) _ _ (acc.push (.ref s.heap.objs.size)) _ (ps ++ [s.heap.objs.size]) (by omega) (by omega) I2 (s0.trans sm) (extN_seqL (extN_of sm) hqx) (extN_seqL (extN_of sm) hqy)
      (fun c hc => fpOk_upd (hf c hc) (Nat.ne_of_lt (hflt c hc))) hfS' ?_ (keep _ _ (fun q => hS (by simp [q])) hTI') (h1'.at fun o q => keep _ o (fun q => hS (by simp [q])) q) (h2'.at fun o q => keep _ o (fun q => hS (by simp [q])) q) (Heap.get?_update_self _ hSo' rfl) ?_ ?_ ?_⟩)
      (by rw [hlen]; omega) (by show (acc.push _).size ≤ sizeLine + 1; rw [Array.size_push, hlen]; omega))
    · rcases hz' with ⟨hz', x0, y0, hTO⟩ | ⟨T, f, oT, hz', hT, ⟨uT, hTu⟩, oO, hO⟩
      · exact .inl ⟨keep _ _ (fun q => hS (by simp [q])) hz', x0, y0, keep _ _ (fun q => hS (by simp [q])) hTO⟩
      · refine .inr ⟨T, f, oT, keep _ _ (fun q => hS (by simp [q])) hz', keep _ _ (fun q => ?_) hT, ⟨uT, hTu⟩, oO, keep _ _ (fun q => hS (by simp [q])) hO⟩
        rw [q, hfS'.1] at hTu
        cases hTu
    · rw [Array.toList_push, ha, List.map_append]
      rfl
    · rw [List.length_append, hp]
      rfl
    · exact (hP.same sm).snoc (by rw [hp]; exact hx) (by rw [hp]; exact hy) upd_same

/-- an object of ours, tracked from now on -/
theorem inv_track {X : Cx} {pins : List (Addr × Obj)} {σ : L2.St} {H : Hp} {s : Shared} {T : Addr} {ob : HO} (I : Inv X pins σ H s) (hf : FpOk X pins H T) (new : ObjOk X.prog X.w (upd H T ob) s.heap T ob) : Inv X pins σ (upd H T ob) s := by
  have key := I.step (h' := s.heap) (H' := upd H T ob) (g' := s.gens) (t' := s.toks) (d' := s.drawn) (ch := [T]) (fun b hb => by
      rw [show b = T by simpa using hb]
      exact ⟨hf.2.2.2.1, hf.2.1, hf.2.2.2.2.1, hf.2.2.2.2.2⟩) (fun b o _ _ _ e _ => e) (fun b o _ _ _ e _ => ⟨o.slots, e⟩) (fun b o hb _ n => by rw [upd_ne (by simpa using hb)]; exact n) (fun b o _ e => ⟨o, e⟩)
      (fun b xs e => by rw [upd_ne (ne_of_none e hf.1)]; exact e) (fun b o u e => by rw [upd_ne (ne_of_none e hf.1)]; exact e) (fun b ps e => ⟨#[], by rw [upd_ne (ne_of_none e hf.1), e]; simp⟩) (fun m hm => hm) (fun b u e => ?_) I.bare
  · exact key
  · by_cases hb : b = T
    · subst hb
      rw [upd_same] at e
      cases e
      exact new
    · rw [upd_ne hb] at e
      exact (I.hok b u e).stay (fun c v _ q => q) (fun c q => by rw [upd_ne (ne_of_none q hf.1)]; exact q) fun c xs q => by rw [upd_ne (ne_of_none q hf.1)]; exact q
theorem call_list_zip {X : Cx} (hh : X.A.handled = none) {pins : List (Addr × Obj)} {σ : L2.St} {H : Hp} {s : Shared} {z TI TO i1 i2 a b : Addr} {xs ys : List V} {Q : Value → Shared → Prop} {E : Value → Shared → Prop} (D : ZipApart z TI TO i1 i2 a b) (I : Inv X pins σ H s) (hf : ∀ c ∈ [z, TI, TO, i1, i2], FpOk X pins H c)
    (hqx : SqL X.K H a xs) (hqy : SqL X.K H b ys) (hl : xs.length = ys.length) (hn : xs.length ≤ sizeLine) (hz : IsZip s.heap z TI TO .none) (hTI : IsPair s.heap TI (.ref i1) (.ref i2)) (hTO : ∃ x y, IsPair s.heap TO x y) (h1 : s.heap.IsListIter i1 a 0) (h2 : s.heap.IsListIter i2 b 0)
    (hQ : ∀ q H' s' ps, Inv X pins σ (upd H' q (.lst (ps.map V.ref))) s' → H q = none → H' q = none → Same H H' → PairsAt H' xs ys ps → ps.length = xs.length → Q (.ref q) s') : wpAny (model X.prog X.w) X.A (call (.type "list") [.ref z]) Q E s := by
  let S := s.heap.objs.size
  let g0 : Heap := s.heap.push (listO #[] 0)
  have hzlt : z < S := Heap.lt_size hz
  have hSz : S ≠ z := Nat.ne_of_gt hzlt
  have hS : S ∉ [z, TI, TO, i1, i2] := fun hm => by
    have e' : S = z ∨ S = TI ∨ S = TO ∨ S = i1 ∨ S = i2 := by simpa using hm
    have lt : ∀ c o, s.heap.get? c = some o → S ≠ c := fun c o q => Nat.ne_of_gt (Heap.lt_size q)
    obtain ⟨x0, y0, hTO⟩ := hTO
    obtain ⟨_, e1, _⟩ := h1
    obtain ⟨_, e2, _⟩ := h2
    rcases e' with q | q | q | q | q
    · exact lt _ _ hz q
    · exact lt _ _ hTI q
    · exact lt _ _ hTO q
    · exact lt _ _ e1 q
    · exact lt _ _ e2 q
  have k0 : ∀ c o, s.heap.get? c = some o → g0.get? c = some o := fun c o e => Heap.get?_push_of_some _ e
  have hS0 : g0.get? S = some (listO #[] 0) := Heap.get?_push_size _ rfl
  have ty : ∀ {h : Heap}, (∀ c o, s.heap.get? c = some o → h.get? c = some o) → ({ s with heap := h } : Shared).TypeIs (.ref z) "zip" := fun k => ⟨_, k _ _ hz, rfl⟩
  have hfr : H S = none := I.hok.fresh (Nat.le_refl _)
  have hfS : FpOk X pins H S := I.fpOk (Nat.le_refl _) hfr
  refine callType_codes (Q₁ := fun obj s₁ => obj = .ref S ∧ s₁ = { s with heap := g0 }) F.called_list (F.typeCall_list_1 _) F.entry_list_init (code_list_new _ ⟨rfl, rfl⟩) fun obj s₁ e₁ => ?_
  obtain ⟨rfl, rfl⟩ := e₁
  refine ⟨⟨_, hS0, rfl⟩, F.args_list_init_2 _ _, ?_⟩
  show wpAny _ X.A.in1.in1 (do let old ← Builtin.List.listItems (.ref S); Builtin.List.listUpdate (.ref S) (fun _ => #[]); letGo old.toList.reverse; Builtin.List.listExtendWith (.ref S) (.ref z) .none) _ _ _
  refine wpAny_bind ?_
  unfold Builtin.List.listItems
  refine wpAny_bind (wpAny_seqItems hS0 rfl (wpAny_pure ?_))
  show wpAny _ X.A.in1.in1 (updateSeq S (fun _ => #[]) >>= fun _ => letGo (#[] : Array Value).toList.reverse >>= fun _ => Builtin.List.listExtendWith (.ref S) (.ref z) .none) _ _ _
  refine wpAny_bind (wpAny_updateSeq hS0 rfl ?_)
  have hS1 := Heap.get?_update_self (Obj.mapSeq (fun _ => (#[] : Array Value))) hS0 rfl
  have up : ∀ (h : Heap) (f : Obj → Obj), (∀ c o, s.heap.get? c = some o → h.get? c = some o) → ∀ c o, s.heap.get? c = some o → (h.update S f).get? c = some o := fun h f k c o e =>
    (Heap.get?_update_other _ _ (Ne.symm (Nat.ne_of_lt (Heap.lt_size e)))).trans (k c o e)
  have k1 := up g0 (Obj.mapSeq (fun _ => (#[] : Array Value))) k0
  refine wpAny_bind (wpAny_letGo ?_)
  unfold Builtin.List.listExtendWith
  refine wpAny_bind (wpAny_typeOf (ty k1) ?_)
  have n1 : Builtin.List.listSameRef (.ref S) (.ref z) = false := by simp [Builtin.List.listSameRef, hSz]
  have n2 : (Value.type "zip" == Value.type "list") = false := by decide
  have n3 : (Value.type "zip" == Value.type "tuple") = false := by decide
  simp only [n1, n2, n3, Bool.or_false, Bool.false_eq_true, if_false]
  refine wpAny_bind (wpAny_pyIter_zip (s := { s with heap := _ }) (k1 _ _ hz) ?_)
  refine wpAny_bind (wpAny_holding ?_)
  unfold Builtin.List.listLengthHint
  refine wpAny_bind (wpAny_specialOf (ty k1) zip_nolen ?_)
  show wpAny _ X.A.in1.in1 (specialOf (Value.ref z) (Str.ofString "__length_hint__") >>= _) _ _ _
  refine wpAny_bind (wpAny_specialOf (ty k1) zip_nohint ?_)
  refine wpAny_pure ?_
  show wpAny _ X.A.in1.in1 (rule "list.extend.makes-room" >>= fun _ => Builtin.List.listTouch (.ref S) >>= fun _ => again (.builtin "list.extend.loop" ⟨[.ref S, .ref z, .none], []⟩)) _ _ _
  refine wpAny_bind (wpAny_rule ?_)
  refine wpAny_bind ?_
  show wpAny _ X.A.in1.in1 (updateSeq S (·.push .none) >>= fun _ => updateSeq S (·.pop)) _ _ _
  refine wpAny_bind (wpAny_updateSeq hS1 rfl ?_)
  have hS2 := Heap.get?_update_self (Obj.mapSeq (·.push Value.none)) hS1 rfl
  refine wpAny_updateSeq (hz := by seq_fits) hS2 rfl ?_
  have hS3 := Heap.get?_update_self (Obj.mapSeq (·.pop)) hS2 rfl
  have k3 := up _ (Obj.mapSeq (·.pop)) (up _ (Obj.mapSeq (·.push Value.none)) k1)
  refine wpAny_pure ⟨plainId_quiet F.plain_extend_loop _, ?_⟩
  have I3 : Inv X pins σ H { s with heap := _ } := I.kept (t' := s.toks) k3
  obtain ⟨x0, y0, hTO⟩ := hTO
  refine zip_drain (X := X) (A := X.A.in1) (pins := pins) (σ := σ) (H0 := H) hh D hS hl hn (fun H' s' acc c ps I' sm fS e q1 q2 q3 => ?_) xs.length 0 _ H #[] _ [] (by omega) (Nat.zero_le _) I3 (fun _ _ e => e) hqx hqy hf hfS (.inl ⟨k3 _ _ hz, x0, y0, k3 _ _ hTO⟩) (k3 _ _ hTI) (h1.at fun o q => k3 _ o q) (h2.at fun o q => k3 _ o q) hS3 rfl rfl (fun j p q => by simp at q)
  refine ⟨rfl, hQ S H' s' ps ?_ hfr fS.1 sm q2 q3⟩
  exact inv_track I' fS ⟨by rw [List.length_map, q3]; exact hn, acc.toList, c, by rw [q1]; exact vals_refs ps, by rw [Array.toArray_toList]; exact e⟩

def tLZip (K : PySem.W.Frag) (ta : TA) : TE := fun σ H Q => ta σ H fun vs H1 => ∃ a b xs ys, vs = [.ref a, .ref b] ∧ SqL K H1 a xs ∧ SqL K H1 b ys ∧ xs.length = ys.length ∧ xs.length ≤ sizeLine ∧
  ∀ q H' ps, H1 q = none → H' q = none → Same H1 H' → PairsAt H' xs ys ps → ps.length = xs.length → Q (.ref q) (upd H' q (.lst (ps.map V.ref)))
theorem pe_listZip {X : Cx} {e e2 : Expr} {ta : TA} {p pos p2 pos2 : Pos} (hc : X.calm = true) (hg : Gl X "list") (hm : X.mg "list" = none) (hg2 : Gl X "zip") (hm2 : X.mg "zip" = none) (ha : PA X [e, e2] ta)
    (na : starEach [.Call (.Name "zip" p2) [e, e2] [] pos2] X.env = (false, eval (.Call (.Name "zip" p2) [e, e2] [] pos2) X.env) :: starEach [] X.env := by rfl)
    (hs : starEach [e, e2] X.env = (false, eval e X.env) :: starEach [e2] X.env := by rfl) (hpl : (backTo pos2 (starEach [e2] X.env)).any (·.1) = false := by rfl) :
    PE X (.Call (.Name "list" p) [.Call (.Name "zip" p2) [e, e2] [] pos2] [] pos) (tLZip X.K ta) := by
  refine ⟨fun pins s σ H Q I h => ?_⟩
  refine Call_ (ld_blt I hg hm PyProof.Rows.boot_list (PyProof.Rows.callWith_type1 (args_cons ?_ na) na))
  refine Call_ (ld_blt I hg2 hm2 PyProof.Rows.boot_zip (PyProof.Rows.callWith_type1 (thn (ha.run pos2 pins s σ H _ I h) fun us s1 ⟨vs, H1, I1, r1, q1⟩ => ?_) hs hpl))
  obtain ⟨a, b, xs, ys, ex, hqx, hqy, hl, hn, q⟩ := q1
  subst ex
  obtain ⟨u, u2, rfl, r, r'⟩ := vals2 r1
  cases r
  cases r'
  obtain ⟨its, rv, p1, _⟩ := I1.list hqx
  obtain ⟨its2, rv2, p2, _⟩ := I1.list hqy
  refine call_zip_2 p1.isList p2.isList fun h' hz hTI hTO h1 h2 hsz hk => args_nil ?_
  have I2 : Inv X pins σ H1 { s1 with heap := h' } := I1.kept (t' := s1.toks) hk
  refine call_list_zip (s := { s1 with heap := h' }) (I1.ok.hd hc) (PySem.W.ktu_apart s1.heap.objs.size a b p1.lt p2.lt) I2 (fun c hcm => ?_) hqx hqy hl hn hz hTI ⟨_, _, hTO⟩ h1 h2 fun l H' s' ps I' n1 n2 sm hp hps => ⟨.ref l, _, I', rfl, q l H' ps n1 n2 sm hp hps⟩
  have e' : c = s1.heap.objs.size + 4 ∨ c = s1.heap.objs.size + 2 ∨ c = s1.heap.objs.size + 3 ∨ c = s1.heap.objs.size ∨ c = s1.heap.objs.size + 1 := by simpa using hcm
  have hle : s1.heap.objs.size ≤ c := by
    rcases e' with q | q | q | q | q <;> rw [q] <;> first | exact Nat.le_refl _ | exact Nat.le_add_right _ _
  exact I1.fpOk hle (I1.hok.fresh hle)
end Q1

set_option Elab.async false
set_option maxRecDepth 100000
set_option maxHeartbeats 4000000
namespace Q1
open PySem L2 LamX
/-! ### what holds no list -/
mutual
def D.free : D → Prop
  | .lst _ => False
  | .tup xs => frees xs
  | _ => True
def frees : List D → Prop
  | [] => True
  | x :: xs => x.free ∧ frees xs
end
mutual
theorem Rep.free {S S' : Addr → Prop} {H : Hp} : ∀ {d : D} {v : V}, Rep S H d v → d.free → Rep S' H d v
  | .non, _, h, _ => h
  | .bl _, _, h, _ => h
  | .int _, _, h, _ => h
  | .str _, _, h, _ => h
  | .dic, _, h, _ => h
  | .lst xs, _, _, f => f.elim
  | .tup xs, _, h, f => by
    obtain ⟨a, vs, rfl, ha, r⟩ := h
    exact ⟨a, vs, rfl, ha, Reps.free r f⟩
theorem Reps.free {S S' : Addr → Prop} {H : Hp} : ∀ {ds : List D} {vs : List V}, Reps S H ds vs → frees ds → Reps S' H ds vs
  | [], _, h, _ => h
  | d :: ds, _, h, f => by
    obtain ⟨v, r, rfl, h1, h2⟩ := h
    exact ⟨v, r, rfl, Rep.free h1 f.1, Reps.free h2 f.2⟩
end
theorem free_of_mem : ∀ {ds : List D}, (∀ d ∈ ds, d.free) → frees ds
  | [], _ => trivial
  | d :: ds, h => ⟨h d List.mem_cons_self, free_of_mem fun x hx => h x (List.mem_cons_of_mem _ hx)⟩
theorem free_hand {d : D} (h : d.isHand = true) : (handD d).free := by
  by_cases hs : d.isStr = true
  · cases d with
    | str s => trivial
    | _ => cases hs
  · obtain ⟨i, j, e | e⟩ := hand_odds h (by simpa using hs) <;> rw [e] <;> exact ⟨trivial, trivial, trivial⟩
theorem litsD_free (c : List (Str × Bool)) : frees (c.map litD) := free_of_mem fun d hd => by
  obtain ⟨l, _, rfl⟩ := List.mem_map.mp hd
  exact ⟨trivial, trivial, trivial⟩

/-! ### the methods that tell -/
def ListsAt (H : Hp) (as : List Addr) (ds : List (List D)) : Prop := as.length = ds.length ∧ ∀ (i : Nat) (a : Addr) (d : List D), as[i]? = some a → ds[i]? = some d → ∃ vs, H a = some (.lst vs) ∧ Reps (fun _ => False) H d vs
/-- a new list of new lists, each by itself -/
def NewLists (H H' : Hp) (ds : List (List D)) (r : V) : Prop := ∃ (l : Addr) (as : List Addr), r = .ref l ∧ H l = none ∧ H' l = some (.lst (as.map V.ref)) ∧ l ∉ as ∧ as.Nodup ∧ (∀ a ∈ as, H a = none) ∧ ListsAt H' as ds
theorem ListsAt.stay {H H' : Hp} {as : List Addr} {ds : List (List D)} (h : ListsAt H as ds) (e : Stay (fun a => a ∈ as) H H') : ListsAt H' as ds := ⟨h.1, fun i a d ha hd => by
  obtain ⟨vs, h1, h2⟩ := h.2 i a d ha hd
  exact ⟨vs, e a _ h1 (.inl ⟨_, rfl, List.mem_of_getElem? ha⟩), Reps.mono (fun _ z => z) (e.weak fun _ z => z.elim) h2⟩⟩
theorem ListsAt.snoc {H : Hp} {as : List Addr} {ds : List (List D)} {a : Addr} {d : List D} {vs : List V} (h : ListsAt H as ds) (h1 : H a = some (.lst vs)) (h2 : Reps (fun _ => False) H d vs) : ListsAt H (as ++ [a]) (ds ++ [d]) := by
  refine ⟨by rw [List.length_append, List.length_append, h.1]; rfl, fun i b e hb he => ?_⟩
  by_cases hi : i < as.length
  · rw [List.getElem?_append_left hi] at hb
    rw [List.getElem?_append_left (by rw [← h.1]; exact hi)] at he
    exact h.2 i b e hb he
  · rw [List.getElem?_append_right (by omega)] at hb
    rw [List.getElem?_append_right (by rw [← h.1]; omega), ← h.1] at he
    have z : i - as.length = 0 := by
      cases k : i - as.length with
      | zero => rfl
      | succ n => rw [k] at hb; cases hb
    rw [z] at hb he
    cases (show some a = some b from hb)
    cases (show some d = some e from he)
    exact ⟨vs, h1, h2⟩
section
variable {P : Program} {w : World} {K : PySem.W.Frag} {mg : Str → Option Value} {base : Heap}
abbrev sMarks : Stmt := inClass (top 24) 1
abbrev sWishes : Stmt := inClass (top 24) 2
abbrev sGuards : Stmt := inClass (top 24) 3
theorem scMarks : FnScope ["self"] ["self"] (defScope sMarks) := ⟨rfl, rfl, rfl, by decide +kernel, rfl, by decide +kernel, by decide +kernel⟩
theorem scWishes : FnScope ["self", "clause"] ["self"] (defScope sWishes) := ⟨rfl, rfl, rfl, by decide +kernel, rfl, by decide +kernel, by decide +kernel⟩
theorem scGuards : FnScope ["self", "clause"] ["self"] (defScope sGuards) := ⟨rfl, rfl, rfl, by decide +kernel, rfl, by decide +kernel, by decide +kernel⟩
def pairD (p : Str × D) : D := .tup [.str p.1, handD p.2]
def spMarks (C : Addr) : Sp := fun vs H Q _ => ∃ (S : Addr → Prop) (q : Addr) (ps : List (Str × D)) (cw cg : List (List (Str × Bool))), vs = [.ref q] ∧ QAt C S H q ps cw cg ∧ ps.length ≤ 1000 ∧ (∀ p ∈ ps, p.2.isHand = true) ∧
  ∀ H' l ts, Same H H' → H l = none → H' l = some (.lst ts) → Reps (fun _ => False) H' (ps.map pairD) ts → Q (.ref l) H'
def spWishes (C : Addr) (b : Bool) : Sp := fun vs H Q _ => ∃ (S : Addr → Prop) (q : Addr) (ps : List (Str × D)) (cw cg : List (List (Str × Bool))), vs = [.ref q] ∧ QAt C S H q ps cw cg ∧ (bif b then cg else cw).length ≤ 1000 ∧
  ∀ H' r, Same H H' → NewLists H H' ((bif b then cg else cw).map fun c => c.map litD) r → Q r H'
theorem pairs_reps {S1 S2 S : Addr → Prop} {H : Hp} : ∀ {ds es : List D} {xs ys : List V} {ps : List Addr}, Reps S1 H ds xs → Reps S2 H es ys → (∀ d ∈ ds, d.free) → (∀ d ∈ es, d.free) → ds.length = es.length → ps.length = ds.length → PairsAt H xs ys ps → Reps S H ((ds.zip es).map fun q => D.tup [q.1, q.2]) (ps.map V.ref)
  | [], es, xs, ys, ps, _, _, _, _, _, hp, _ => by
    cases ps with
    | nil => exact rfl
    | cons _ _ => cases hp
  | d :: ds, [], xs, ys, ps, _, _, _, _, hl, _, _ => by cases hl
  | d :: ds, e :: es, xs, ys, [], _, _, _, _, _, hp, _ => by cases hp
  | d :: ds, e :: es, xs, ys, p :: ps, h1, h2, f1, f2, hl, hp, h => by
    obtain ⟨v, r, rfl, a1, a2⟩ := h1
    obtain ⟨v2, r2, rfl, b1, b2⟩ := h2
    obtain ⟨x, y, hx, hy, ht⟩ := h 0 p rfl
    cases (show some v = some x from hx)
    cases (show some v2 = some y from hy)
    exact ⟨.ref p, _, rfl, ⟨p, _, rfl, ht, v, [v2], rfl, a1.free (f1 d List.mem_cons_self), v2, [], rfl, b1.free (f2 e List.mem_cons_self), rfl⟩,
      pairs_reps a2 b2 (fun x hx => f1 x (List.mem_cons_of_mem _ hx)) (fun x hx => f2 x (List.mem_cons_of_mem _ hx)) (by simpa using hl) (by simpa using hp) fun j q hq => h (j + 1) q hq⟩
theorem ok_marks (B : Bt mg) (Z : Qc K mg) {f : Addr} {fd : FuncData} (F : Fun K "marks" "Question.marks" sMarks f fd) : FnOk P w K mg base CX0 1 f fd ["self"] (spMarks Z.C) := by
  refine F.ok scMarks (fun vs H Q E h => ?_) (fun cdv A outer s H vs Q E hr h => ?_)
  · obtain ⟨S, q, ps, cw, cg, rfl, _⟩ := h
    rfl
  · obtain ⟨S, q, ps, cw, cg, rfl, hq, hn, hh, k⟩ := h
    refine ⟨_, pss_one (ps_ret (pe_listZip rfl (by rfl) B.lst (by rfl) B.zip (pa_cons (pe_fld (pv 0) rfl) (pa_cons (pe_fld (pv 0) rfl) pa_nil)))), ?_⟩
    obtain ⟨dx, n, hA, pA, wl, gl, wc, wt, gc, gt, hs, rn, rh, _⟩ := id hq
    obtain ⟨_, xs, e1, _, hxs, r1⟩ := id rn
    obtain ⟨_, ys, e2, _, hys, r2⟩ := id rh
    cases e1
    cases e2
    have l1 := r1.length
    have l2 := r2.length
    rw [List.length_map] at l1 l2
    refine ⟨_, rfl, q, Z.C, dx, _, _, rfl, hs, Z.cl, Z.no _ (by decide +kernel), rfl, _, rfl, q, Z.C, dx, _, _, rfl, hs, Z.cl, Z.no _ (by decide +kernel), rfl, n, hA, xs, ys, rfl, SqL.of hxs, SqL.of hys, by rw [l1, l2], by rw [l1]; exact Nat.le_trans hn (by decide), fun l H' qs n1 n2 sm hp hps => ?_⟩
    refine k _ l _ (Same.at sm n1) n1 upd_same ?_
    have z : (ps.map pairD) = ((ps.map fun q => D.str q.1).zip (ps.map fun q => handD q.2)).map fun q => D.tup [q.1, q.2] := by
      rw [List.zip_map', List.map_map]
      rfl
    rw [z]
    refine Reps.mono (fun _ z => z) (stay_of (Same.new n2)) (pairs_reps (r1.same sm) (r2.same sm) ?_ ?_ (by simp) (by rw [hps, l1]; simp) hp)
    · intro d hd
      obtain ⟨p, _, rfl⟩ := List.mem_map.mp hd
      trivial
    · intro d hd
      obtain ⟨p, hp2, rfl⟩ := List.mem_map.mp hd
      exact free_hand (hh p hp2)
def rListOf (K : PySem.W.Frag) : List V → Hp → VK → Prop := fun xs H Q => ∃ p ys, xs = [.ref p] ∧ (SqL K H p ys ∨ SqT K H p ys) ∧ ∀ l, H l = none → Q (.ref l) (upd H l (.lst ys))
theorem call_listOf {X : Cx} : CallR X (.type "list") (rListOf X.K) := call_list_of
theorem ok_wishes (B : Bt mg) (Z : Qc K mg) {f : Addr} {fd : FuncData} (F : Fun K "wishes" "Question.wishes" sWishes f fd) : FnOk P w K mg base CX0 1 f fd ["self"] (spWishes Z.C false) := by
  refine F.ok scWishes (fun vs H Q E h => ?_) (fun cdv A outer s H vs Q E hr h => ?_)
  · obtain ⟨S, q, ps, cw, cg, rfl, _⟩ := h
    rfl
  · obtain ⟨S, q, ps, cw, cg, rfl, hq, hn, k⟩ := h
    refine ⟨_, pss_one (ps_ret (pe_lc (own := [("clause", 1)]) (g := gName 1) (tt := tYes) (te := tCB (rListOf K) (tCons (tVar 1) tNil)) rfl scWishes.nd (pi_list (pe_fld (pv 0) rfl)) (blkOk_by (own := [("clause", 1)]) (N := ["self", "clause"]) (sc := defScope sWishes) (by decide +kernel)) (fun _ _ _ _ _ => pg_name (i := 1) scWishes.nd rfl (Or.inl rfl)) (fun _ _ _ _ _ => pts_nil)
      (fun _ _ _ _ _ => pe_callTy call_listOf (by rfl) B.lst PyProof.Rows.boot_list (pa_cons (pv 1) pa_nil)))), ?_⟩
    obtain ⟨dx, n, hA, pA, wl, gl, wc, wt, gc, gt, hs, _, _, _, rw, rg, _⟩ := id hq
    obtain ⟨_, vs, e1, _, hvs, r1⟩ := id rw
    cases e1
    have l1 := r1.length
    rw [List.length_map] at l1
    refine ⟨_, rfl, q, Z.C, dx, _, _, rfl, hs, Z.cl, Z.no _ (by decide +kernel), rfl, wl, rfl, ⟨vs, SqL.of hvs⟩, fun c1 hc1 => ?_⟩
    refine lc_list (K := K) (a := wl) (xs := vs) (fun i H' => Same H H' ∧ ∃ as : List Addr, H' c1 = some (.lst (as.map V.ref)) ∧ c1 ∉ as ∧ as.Nodup ∧ (∀ a ∈ as, H a = none) ∧ ListsAt H' as ((cw.take i).map fun c => c.map litD))
      ⟨Same.new hc1, [], upd_same, by simp, List.nodup_nil, fun a h => by simp at h, rfl, fun i a d h => by simp at h⟩ (fun i H' _ h => SqL.of (h.1 _ _ hvs)) ?_ ?_
    · rintro i y H' hy ⟨sm, as, hl, nc, nd, fr, la⟩
      obtain ⟨dy, hdy, hry⟩ := (r1.same sm).get hy
      rw [List.getElem?_map] at hdy
      have hlt : i < vs.length := (List.getElem?_eq_some_iff.mp hy).1
      cases hcy : cw[i]? with
      | none => rw [hcy] at hdy; cases hdy
      | some c =>
        rw [hcy] at hdy
        cases hdy
        obtain ⟨b, us, rfl, _, hus, ru⟩ := hry
        have la0 : as.length = i := by
          rw [la.1, List.length_map, List.length_take]
          omega
        refine ⟨rfl, ?_⟩
        refine ⟨_, rfl, b, us, rfl, .inl (SqL.of hus), fun l hl0 => ?_⟩
        have hl2 : upd H' l (.lst us) c1 = some (.lst (as.map V.ref)) := by rw [upd_ne (ne_of_none hl hl0)]; exact hl
        have hlH : H l = none := by
          cases e : H l with
          | none => rfl
          | some o => rw [sm _ _ e] at hl0; cases hl0
        have nas : l ∉ as := fun hm => by
          obtain ⟨j, hj⟩ := List.mem_iff_getElem?.mp hm
          obtain ⟨vs', h1, _⟩ := la.2 j l _ hj (List.getElem?_eq_getElem (by rw [← la.1]; exact (List.getElem?_eq_some_iff.mp hj).1))
          rw [hl0] at h1
          cases h1
        refine ⟨as.map V.ref, hl2, ?_, Same.at (Same.at sm hlH) hc1, as ++ [l], ?_, ?_, ?_, ?_, ?_⟩
        · rw [List.length_map, la0]
          exact Nat.lt_of_lt_of_le hlt (Nat.le_trans (show vs.length ≤ 1000 by rw [l1]; exact hn) (by decide))
        · rw [upd_same, List.map_append]
          rfl
        · intro hm
          rcases List.mem_append.mp hm with hm | hm
          · exact nc hm
          · have : c1 = l := by simpa using hm
            rw [← this, hl] at hl0
            cases hl0
        · rw [List.nodup_append]
          exact ⟨nd, by simp, fun a ha b hb => by
            have : b = l := by simpa using hb
            subst this
            exact fun z => nas (z ▸ ha)⟩
        · intro a ha
          rcases List.mem_append.mp ha with ha | ha
          · exact fr a ha
          · rw [show a = l by simpa using ha]
            exact hlH
        · rw [show (cw.take (i + 1)).map (fun c => c.map litD) = (cw.take i).map (fun c => c.map litD) ++ [c.map litD] by rw [List.take_add_one, hcy, List.map_append]; rfl]
          have s1 : Same H' (upd H' l (.lst us)) := Same.new hl0
          have s2 : ∀ o, Stay (fun a => a ∈ as ++ [l]) (upd H' l (.lst us)) (upd (upd H' l (.lst us)) c1 o) := fun o => stay_upd hl2 (nd_lst fun hm => by
            rcases List.mem_append.mp hm with hm | hm
            · exact nc hm
            · have : c1 = l := by simpa using hm
              rw [← this, hl] at hl0
              cases hl0)
          exact ListsAt.stay (ListsAt.snoc (la.stay (stay_of s1)) upd_same (Reps.mono (fun _ z => z) (stay_of s1) (ru.free (litsD_free c)))) (s2 _)
    · rintro H' ⟨sm, as, hl, nc, nd, fr, la⟩
      rw [l1, List.take_length] at la
      exact k H' _ sm ⟨c1, as, rfl, hc1, hl, nc, nd, fr, la⟩
theorem ok_guards (B : Bt mg) (Z : Qc K mg) {f : Addr} {fd : FuncData} (F : Fun K "guards" "Question.guards" sGuards f fd) : FnOk P w K mg base CX0 1 f fd ["self"] (spWishes Z.C true) := by
  refine F.ok scGuards (fun vs H Q E h => ?_) (fun cdv A outer s H vs Q E hr h => ?_)
  · obtain ⟨S, q, ps, cw, cg, rfl, _⟩ := h
    rfl
  · obtain ⟨S, q, ps, cw, cg, rfl, hq, hn, k⟩ := h
    refine ⟨_, pss_one (ps_ret (pe_lc (own := [("clause", 1)]) (g := gName 1) (tt := tYes) (te := tCB (rListOf K) (tCons (tVar 1) tNil)) rfl scGuards.nd (pi_list (pe_fld (pv 0) rfl)) (blkOk_by (own := [("clause", 1)]) (N := ["self", "clause"]) (sc := defScope sGuards) (by decide +kernel)) (fun _ _ _ _ _ => pg_name (i := 1) scGuards.nd rfl (Or.inl rfl)) (fun _ _ _ _ _ => pts_nil)
      (fun _ _ _ _ _ => pe_callTy call_listOf (by rfl) B.lst PyProof.Rows.boot_list (pa_cons (pv 1) pa_nil)))), ?_⟩
    obtain ⟨dx, n, hA, pA, wl, gl, wc, wt, gc, gt, hs, _, _, _, rw, rg, _⟩ := id hq
    obtain ⟨_, vs, e1, _, hvs, r1⟩ := id rg
    cases e1
    have l1 := r1.length
    rw [List.length_map] at l1
    refine ⟨_, rfl, q, Z.C, dx, _, _, rfl, hs, Z.cl, Z.no _ (by decide +kernel), rfl, gl, rfl, ⟨vs, SqL.of hvs⟩, fun c1 hc1 => ?_⟩
    refine lc_list (K := K) (a := gl) (xs := vs) (fun i H' => Same H H' ∧ ∃ as : List Addr, H' c1 = some (.lst (as.map V.ref)) ∧ c1 ∉ as ∧ as.Nodup ∧ (∀ a ∈ as, H a = none) ∧ ListsAt H' as ((cg.take i).map fun c => c.map litD))
      ⟨Same.new hc1, [], upd_same, by simp, List.nodup_nil, fun a h => by simp at h, rfl, fun i a d h => by simp at h⟩ (fun i H' _ h => SqL.of (h.1 _ _ hvs)) ?_ ?_
    · rintro i y H' hy ⟨sm, as, hl, nc, nd, fr, la⟩
      obtain ⟨dy, hdy, hry⟩ := (r1.same sm).get hy
      rw [List.getElem?_map] at hdy
      have hlt : i < vs.length := (List.getElem?_eq_some_iff.mp hy).1
      cases hcy : cg[i]? with
      | none => rw [hcy] at hdy; cases hdy
      | some c =>
        rw [hcy] at hdy
        cases hdy
        obtain ⟨b, us, rfl, _, hus, ru⟩ := hry
        have la0 : as.length = i := by
          rw [la.1, List.length_map, List.length_take]
          omega
        refine ⟨rfl, ?_⟩
        refine ⟨_, rfl, b, us, rfl, .inl (SqL.of hus), fun l hl0 => ?_⟩
        have hl2 : upd H' l (.lst us) c1 = some (.lst (as.map V.ref)) := by rw [upd_ne (ne_of_none hl hl0)]; exact hl
        have hlH : H l = none := by
          cases e : H l with
          | none => rfl
          | some o => rw [sm _ _ e] at hl0; cases hl0
        have nas : l ∉ as := fun hm => by
          obtain ⟨j, hj⟩ := List.mem_iff_getElem?.mp hm
          obtain ⟨vs', h1, _⟩ := la.2 j l _ hj (List.getElem?_eq_getElem (by rw [← la.1]; exact (List.getElem?_eq_some_iff.mp hj).1))
          rw [hl0] at h1
          cases h1
        refine ⟨as.map V.ref, hl2, ?_, Same.at (Same.at sm hlH) hc1, as ++ [l], ?_, ?_, ?_, ?_, ?_⟩
        · rw [List.length_map, la0]
          exact Nat.lt_of_lt_of_le hlt (Nat.le_trans (show vs.length ≤ 1000 by rw [l1]; exact hn) (by decide))
        · rw [upd_same, List.map_append]
          rfl
        · intro hm
          rcases List.mem_append.mp hm with hm | hm
          · exact nc hm
          · have : c1 = l := by simpa using hm
            rw [← this, hl] at hl0
            cases hl0
        · rw [List.nodup_append]
          exact ⟨nd, by simp, fun a ha b hb => by
            have : b = l := by simpa using hb
            subst this
            exact fun z => nas (z ▸ ha)⟩
        · intro a ha
          rcases List.mem_append.mp ha with ha | ha
          · exact fr a ha
          · rw [show a = l by simpa using ha]
            exact hlH
        · rw [show (cg.take (i + 1)).map (fun c => c.map litD) = (cg.take i).map (fun c => c.map litD) ++ [c.map litD] by rw [List.take_add_one, hcy, List.map_append]; rfl]
          have s1 : Same H' (upd H' l (.lst us)) := Same.new hl0
          have s2 : ∀ o, Stay (fun a => a ∈ as ++ [l]) (upd H' l (.lst us)) (upd (upd H' l (.lst us)) c1 o) := fun o => stay_upd hl2 (nd_lst fun hm => by
            rcases List.mem_append.mp hm with hm | hm
            · exact nc hm
            · have : c1 = l := by simpa using hm
              rw [← this, hl] at hl0
              cases hl0)
          exact ListsAt.stay (ListsAt.snoc (la.stay (stay_of s1)) upd_same (Reps.mono (fun _ z => z) (stay_of s1) (ru.free (litsD_free c)))) (s2 _)
    · rintro H' ⟨sm, as, hl, nc, nd, fr, la⟩
      rw [l1, List.take_length] at la
      exact k H' _ sm ⟨c1, as, rfl, hc1, hl, nc, nd, fr, la⟩
end
end Q1

set_option Elab.async false
set_option maxRecDepth 100000
set_option maxHeartbeats 4000000
namespace Q1
open PySem L2 LamX
/-! ### data as the library's data; == -/
mutual
def D.py : D → PyData
  | .non => .none
  | .bl b => .bool b
  | .int i => .int i
  | .str x => .str x
  | .lst xs => .list (pys xs)
  | .tup xs => .tuple (pys xs)
  | .dic => .dict []
def pys : List D → List PyData
  | [] => []
  | x :: xs => x.py :: pys xs
end
mutual
/-- data that == goes through, of so many storeys at most -/
def D.ok : Nat → D → Prop
  | _, .str x => PyData.strOk x = true
  | 0, .lst _ => False
  | 0, .tup _ => False
  | n + 1, .lst xs => oks n xs
  | n + 1, .tup xs => oks n xs
  | _, .dic => False
  | _, .non => True
  | _, .bl _ => True
  | _, .int _ => True
def oks : Nat → List D → Prop
  | _, [] => True
  | n, x :: xs => x.ok n ∧ oks n xs
end
mutual
theorem Rep.dp {S : Addr → Prop} {K : PySem.W.Frag} {H : Hp} : ∀ {n : Nat} {d : D} {v : V}, Rep S H d v → d.ok n → Dp K H v d.py
  | _, .non, _, h, _ => by cases h; exact .non
  | _, .bl _, _, h, _ => by cases h; exact .bl _
  | _, .int _, _, h, _ => by cases h; exact .int _
  | _, .str _, _, h, _ => by cases h; exact .str _
  | _, .dic, _, _, k => by simp only [D.ok] at k
  | 0, .lst _, _, _, k => k.elim
  | 0, .tup _, _, _, k => k.elim
  | n + 1, .lst xs, _, h, k => by
    obtain ⟨a, vs, rfl, _, ha, r⟩ := h
    exact .lst (SqL.of ha) (Reps.dp r k)
  | n + 1, .tup xs, _, h, k => by
    obtain ⟨a, vs, rfl, ha, r⟩ := h
    exact .tup (SqT.of ha) (Reps.dp r k)
theorem Reps.dp {S : Addr → Prop} {K : PySem.W.Frag} {H : Hp} : ∀ {n : Nat} {ds : List D} {vs : List V}, Reps S H ds vs → oks n ds → DpAll K H vs (pys ds)
  | _, [], _, h, _ => by cases h; exact .nil
  | _, _ :: _, _, h, k => by
    obtain ⟨v, r, rfl, h1, h2⟩ := h
    exact .cons (Rep.dp h1 k.1) (Reps.dp h2 k.2)
end
theorem strOk_of {n : Nat} {x : Str} (k : (D.str x).ok n) : PyData.strOk x = true := by
  cases n <;> simpa only [D.ok] using k
mutual
theorem D.ok_lay : ∀ {n : Nat} {d : D}, d.ok n → d.py.canLay0 = true ∧ d.py.depth ≤ n
  | _, .non, _ => ⟨rfl, Nat.zero_le _⟩
  | _, .bl _, _ => ⟨rfl, Nat.zero_le _⟩
  | _, .int _, _ => ⟨rfl, Nat.zero_le _⟩
  | _, .str _, k => ⟨strOk_of k, Nat.zero_le _⟩
  | _, .dic, k => by simp only [D.ok] at k
  | 0, .lst _, k => k.elim
  | 0, .tup _, k => k.elim
  | n + 1, .lst xs, k => ⟨(oks_lay (n := n) (ds := xs) k).1, Nat.succ_le_succ (oks_lay (n := n) (ds := xs) k).2⟩
  | n + 1, .tup xs, k => ⟨(oks_lay (n := n) (ds := xs) k).1, Nat.succ_le_succ (oks_lay (n := n) (ds := xs) k).2⟩
theorem oks_lay : ∀ {n : Nat} {ds : List D}, oks n ds → PyData.canLayAll0 (pys ds) = true ∧ PyData.depthAll (pys ds) ≤ n
  | _, [], _ => ⟨rfl, Nat.zero_le _⟩
  | n, d :: ds, k => by
    obtain ⟨h1, h2⟩ := D.ok_lay k.1
    obtain ⟨h3, h4⟩ := oks_lay k.2
    exact ⟨by show (d.py.canLay0 && PyData.canLayAll0 (pys ds)) = true; rw [h1, h3]; rfl, Nat.max_le.mpr ⟨h2, h4⟩⟩
end
theorem D.ok_shaped {n : Nat} {d : D} (h : d.ok n) (hn : n ≤ 64) : SeqAt.shaped d.py = true := by
  obtain ⟨h1, h2⟩ := D.ok_lay h
  show (d.py.canLay0 && decide (d.py.depth ≤ 64)) = true
  rw [h1, decide_eq_true (Nat.le_trans h2 hn)]
  rfl
theorem oks_mem : ∀ {n : Nat} {ds : List D}, (∀ d ∈ ds, d.ok n) → oks n ds
  | _, [], _ => trivial
  | _, d :: _, h => ⟨h d List.mem_cons_self, oks_mem fun x hx => h x (List.mem_cons_of_mem _ hx)⟩
/-- Python's == -/
def D.eq (d e : D) : Bool := PyData.eqv d.py e.py

/-- what isinstance asks of the class Question -/
structure Qi (K : PySem.W.Frag) (C : Addr) : Prop where
  ins : ∀ {H : Hp} {a dx : Addr} {fs : List (Str × V)}, H a = some (.ins C dx fs) → TyX K H (.ref a) (.ref C)
def namesD (ps : List (Str × D)) : D := .lst (ps.map fun q => .str q.1)
def handsD (ps : List (Str × D)) : D := .lst (ps.map fun q => handD q.2)
/-- whether two questions are equal -/
def eqQ (ps ps2 : List (Str × D)) (cw cw2 cg cg2 : List (List (Str × Bool))) : Bool := (namesD ps).eq (namesD ps2) && ((handsD ps).eq (handsD ps2) && ((clausesD cw).eq (clausesD cw2) && (clausesD cg).eq (clausesD cg2)))
def okQ (ps : List (Str × D)) (cw cg : List (List (Str × Bool))) : Prop := (namesD ps).ok 8 ∧ (handsD ps).ok 8 ∧ (clausesD cw).ok 8 ∧ (clausesD cg).ok 8
section
variable {P : Program} {w : World} {K : PySem.W.Frag} {mg : Str → Option Value} {base : Heap}
abbrev sEq : Stmt := inClass (top 24) 4
theorem scEq : FnScope ["self", "other"] ["self", "other"] (defScope sEq) := ⟨rfl, rfl, rfl, by decide +kernel, rfl, by decide +kernel, by decide +kernel⟩
def spEq (K : PySem.W.Frag) (C : Addr) : Sp := fun vs H Q _ => ∃ (q : Addr) (x : V), vs = [.ref q, x] ∧ ((∃ t, TyX K H x t ∧ PySem.W.kitOne K t (.ref C) = some false ∧ Q (.bl false) H) ∨
  ∃ (S S2 : Addr → Prop) (q2 : Addr) (ps ps2 : List (Str × D)) (cw cw2 cg cg2 : List (List (Str × Bool))), x = .ref q2 ∧ QAt C S H q ps cw cg ∧ QAt C S2 H q2 ps2 cw2 cg2 ∧ okQ ps cw cg ∧ okQ ps2 cw2 cg2 ∧ Q (.bl (eqQ ps ps2 cw cw2 cg cg2)) H)
theorem eqD_of {K : PySem.W.Frag} {S S2 : Addr → Prop} {H : Hp} {d e : D} {v u : V} {Q : VK} (h : Rep S H d v) (k : Rep S2 H e u) (hd : d.ok 8) (he : e.ok 8) (q : Q (.bl (d.eq e)) H) : rEqD K v u H Q :=
  ⟨d.py, e.py, h.dp hd, k.dp he, D.ok_shaped hd (by decide), D.ok_shaped he (by decide), q⟩
theorem ok_eq (B : Bt mg) (Z : Qc K mg) (Y : Qi K Z.C) {f : Addr} {fd : FuncData} (F : Fun K "__eq__" "Question.__eq__" sEq f fd) : FnOk P w K mg base CX0 1 f fd ["self", "other"] (spEq K Z.C) := by
  refine F.ok scEq (fun vs H Q E h => ?_) (fun cdv A outer s H vs Q E hr h => ?_)
  · obtain ⟨q, x, rfl, _⟩ := h
    rfl
  · obtain ⟨q, x, rfl, h⟩ := h
    refine ⟨_, pss_one (ps_ret (pe_and (pe_callB call_isi (by rfl) B.isi PyProof.Rows.boot_isinstance (pa_cons (pv 1) (pa_cons (gv (v := .ref Z.C) Z.g rfl) pa_nil)))
      (pe_and (pe_cmpR (op_eqD hr.units) (pe_fld (pv 0) rfl) (pe_fld (pv 1) rfl) (nomark _)) (pe_and (pe_cmpR (op_eqD hr.units) (pe_fld (pv 0) rfl) (pe_fld (pv 1) rfl) (nomark _))
        (pe_and (pe_cmpR (op_eqD hr.units) (pe_fld (pv 0) rfl) (pe_fld (pv 1) rfl) (nomark _)) (pe_one (pe_cmpR (op_eqD hr.units) (pe_fld (pv 0) rfl) (pe_fld (pv 1) rfl) (nomark _)))))))), ?_⟩
    rcases h with ⟨ty, hty, hk, k⟩ | ⟨S, S2, q2, ps, ps2, cw, cw2, cg, cg2, rfl, h1, h2, k1, k2, k⟩
    · exact ⟨_, rfl, x, .ref Z.C, ty, .ref Z.C, false, rfl, .own Z.C, hty, hk, false, rfl, k⟩
    · obtain ⟨dx, n, hA, pA, wl, gl, wc, wt, gc, gt, hs, rn, rh, _, rw', rg, _⟩ := h1
      obtain ⟨dx2, n2, hA2, pA2, wl2, gl2, wc2, wt2, gc2, gt2, hs2, rn2, rh2, _, rw2, rg2, _⟩ := h2
      refine ⟨_, rfl, .ref q2, .ref Z.C, .ref Z.C, .ref Z.C, true, rfl, .own Z.C, Y.ins hs2, by unfold PySem.W.kitOne; rw [if_pos (by simp)], true, rfl, ?_⟩
      unfold eqQ at k
      refine ⟨_, rfl, q, Z.C, dx, _, _, rfl, hs, Z.cl, Z.no _ (by decide +kernel), rfl, _, rfl, q2, Z.C, dx2, _, _, rfl, hs2, Z.cl, Z.no _ (by decide +kernel), rfl, eqD_of (d := namesD ps) (e := namesD ps2) rn rn2 k1.1 k2.1 ⟨_, rfl, ?_⟩⟩
      revert k
      cases (namesD ps).eq (namesD ps2) <;> intro k
      · exact k
      · refine ⟨_, rfl, q, Z.C, dx, _, _, rfl, hs, Z.cl, Z.no _ (by decide +kernel), rfl, _, rfl, q2, Z.C, dx2, _, _, rfl, hs2, Z.cl, Z.no _ (by decide +kernel), rfl, eqD_of (d := handsD ps) (e := handsD ps2) rh rh2 k1.2.1 k2.2.1 ⟨_, rfl, ?_⟩⟩
        revert k
        cases (handsD ps).eq (handsD ps2) <;> intro k
        · exact k
        · refine ⟨_, rfl, q, Z.C, dx, _, _, rfl, hs, Z.cl, Z.no _ (by decide +kernel), rfl, _, rfl, q2, Z.C, dx2, _, _, rfl, hs2, Z.cl, Z.no _ (by decide +kernel), rfl, eqD_of rw' rw2 k1.2.2.1 k2.2.2.1 ⟨_, rfl, ?_⟩⟩
          revert k
          cases (clausesD cw).eq (clausesD cw2) <;> intro k
          · exact k
          · exact ⟨_, rfl, q, Z.C, dx, _, _, rfl, hs, Z.cl, Z.no _ (by decide +kernel), rfl, _, rfl, q2, Z.C, dx2, _, _, rfl, hs2, Z.cl, Z.no _ (by decide +kernel), rfl, eqD_of rg rg2 k1.2.2.2 k2.2.2.2 k⟩
end
end Q1

set_option Elab.async false
set_option maxRecDepth 100000
set_option maxHeartbeats 4000000
namespace Q1
open PySem PySem.Spec PyProof.Rows L2
open PySem.W (InstAt findIn isFn subIn notFirst CmpBack looks_findIn looks_subIn)
/-! ### == and != of an own class, by its __eq__, both answers -/
section
variable {prog : Program} {w : World} {A : Around} {E : Value → Shared → Prop} {s : Shared} {K : PySem.W.Frag} {x C f : Addr} {ox : Obj} {od : Option Obj} {b tb : Value}
theorem bind_ne (self : Value) : bindSpecial (.builtin "object.__ne__") self = pure (.builtin "object.__ne__", [self]) := F.slot_zip_ne.bind self
theorem ifBound_ne {M : Model} {args : List Value} {Q : Option Value → Shared → Prop} (X : K.In s.heap) (I : InstAt s.heap x ox C od) (hs : findIn K (.ref C) "__ne__" = some (some (.builtin "object.__ne__")))
    (h : wpAny M A (call (.builtin "object.__ne__") (.ref x :: args)) (fun v => Q (some v)) E s) : wpAny M A (callSpecialIfBound? (.ref x) "__ne__" args) Q E s := by
  simp only [callSpecialIfBound?, bindSpecialIfBound?]
  refine wpAny_holding (wpAny_bind (wpAny_bind (wpAny_bind (I.type.here ((looks_findIn X hs).here ?_)))))
  refine wpAny_bind (wpAny_askSetting (wpAny_ite ?_))
  have fin : wpAny M A (call (.builtin "object.__ne__") ([.ref x] ++ args) >>= fun v => pure (some v)) Q E s := wpAny_bind (wpAny_mono h (fun v s' h' => wpAny_pure h') fun _ _ h' => h')
  rw [bind_ne]
  split
  · exact wpAny_bind (wpAny_pure (wpAny_pure (by exact fin)))
  · exact wpAny_tryCatch (wpAny_bind (wpAny_pure (wpAny_pure (by exact fin))))
theorem check_ne {M : Model} {Q : Unit → Shared → Prop} (X : K.In s.heap) (I : InstAt s.heap x ox C od) (hob : subIn K (.ref C) (.type "object") = some true) (hq : Q () s) : wpAny M A (checkBuiltinCall "object.__ne__" ⟨[.ref x, b], []⟩) Q E s := by
  have ha := F.cmpArgs_ne (.ref x) b
  simp only [checkBuiltinCall, F.cmpKind_ne, F.cmpSplit_ne]
  refine wpAny_bind ?_
  unfold isInstance
  refine wpAny_bind (I.type.here ((looks_subIn X hob).here ?_))
  simp only [Bool.not_true, Bool.false_eq_true, if_false]
  cases hsig : Manifest.signature? "object.__ne__" with
  | none => exact wpAny_pure hq
  | some sig =>
    simp only [argsOk, hsig] at ha
    have h2 : Bind.checkArgs "object.__ne__" sig ⟨[.ref x, b], []⟩ = pure () := ha
    show wpAny M A (Bind.checkArgs "object.__ne__" sig ⟨[.ref x, b], []⟩) Q E _
    rw [h2]
    exact wpAny_pure hq
theorem body_ne {Q : Fin → Shared → Prop} (hu : A.units < cLine) (X : K.In s.heap) (I : InstAt s.heap x ox C od) (hs : findIn K (.ref C) "__eq__" = some (some (.ref f))) (hf : isFn K (.ref f) = true)
    (h : wpAny (model prog w) A (call (.ref f) [.ref x, b]) (fun v s' => ∃ k, v = .bool k ∧ Q (.done (.ret (.bool (!k)))) s') E s) : wpAny (model prog w) A (Builtin.«object.__ne__» ⟨[.ref x, b], []⟩) Q E s := by
  unfold Builtin.«object.__ne__»
  repeat (first
    | with_reducible refine wpAny_cRoomFor hu ?_
    | (refine wpAny_bind (m := callSpecialIfBound? (.ref x) (Str.ofString "__eq__") [b]) (PySem.W.ifBound_K X I hs hf (wpAny_mono h (fun v s' hr => by
          obtain ⟨k, rfl, hq⟩ := hr
          repeat (first | exact hq | exact wpAny_pure hq | exact wpAny_truthy_bool hq | (refine wpAny_bind (m := truthy (.bool _)) (wpAny_truthy_bool ?_)) | wp_step)) fun _ _ e => e)))
    | wp_step)
theorem rc_ne {h₀ : Heap} {L : Addr} {m : Str → Option Value} {Q : Value → Shared → Prop} (hu : A.units + 1 < cLine) (Ff : Fr h₀ L s.heap m) (X₀ : K.In h₀) (I : InstAt s.heap x ox C od) (hb : PySem.W.Looks (model prog w) s.heap (typeOf b) tb) (hn : notFirst K C tb = true)
    (hne : findIn K (.ref C) "__ne__" = some (some (.builtin "object.__ne__"))) (hob : subIn K (.ref C) (.type "object") = some true) (hs : findIn K (.ref C) "__eq__" = some (some (.ref f))) (hf : isFn K (.ref f) = true)
    (h : wpAny (model prog w) A.in1 (call (.ref f) [.ref x, b]) (fun v s' => ∃ k, v = .bool k ∧ Q (.bool (!k)) s') E s) : wpAny (model prog w) A (richCompare .NotEq (.ref x) b) Q E s := by
  have X := X₀.keeps Ff.keep
  have one : wpAny (model prog w) A (tryCompare (.ref x) "__ne__" b) (fun r s' => ∃ v, r = some v ∧ Q v s') E s := by
    unfold tryCompare
    refine wpAny_bind (ifBound_ne X I hne (wpAny_call (codeAny_call_builtin F.slot_zip_ne.plain F.cmpEntry_ne (check_ne X I hob (body_ne (A := A.in1) hu X I hs hf (wpAny_mono h (fun v s' hv => ?_) fun _ _ e => e))))))
    obtain ⟨k, rfl, hq⟩ := hv
    exact ⟨k, rfl, wpAny_pure ⟨_, rfl, hq⟩⟩
  unfold richCompare
  simp only [PySem.oneThing_ref]
  refine wpAny_holding (wpAny_bind (wpAny_cRoomFor (Nat.lt_of_succ_lt hu) ?_))
  refine wpAny_bind (I.type.here (wpAny_bind (hb.here ?_)))
  have fin : wpAny (model prog w) A (tryCompare (.ref x) "__ne__" b) (fun r s' => ∃ v, r = some v ∧ Q v s') E s := one
  split
  · rename_i q
    have e : subIn K tb (.ref C) = some false := by
      rcases Bool.or_eq_true_iff.mp hn with e | e
      · rw [beq_iff_eq.mp e] at q; simp at q
      · exact beq_iff_eq.mp e
    refine wpAny_bind ((looks_subIn X e).here ?_)
    simp only [Bool.false_eq_true, if_false]
    refine wpAny_bind (wpAny_mono fin (fun r s' z => ?_) fun _ _ e => e)
    obtain ⟨v, rfl, hq⟩ := z
    exact wpAny_pure hq
  · refine wpAny_bind (wpAny_pure ?_)
    simp only [Bool.false_eq_true, if_false]
    refine wpAny_bind (wpAny_mono fin (fun r s' z => ?_) fun _ _ e => e)
    obtain ⟨v, rfl, hq⟩ := z
    exact wpAny_pure hq
end
/-- x == y, x != y: x an instance of the own class at C, whose __eq__ keeps to sp -/
def rOwnEq (K : PySem.W.Frag) (C : Addr) (sp : Sp) (neg : Bool) : R2 := fun x y H Q => ∃ q dx fs tb, x = .ref q ∧ H q = some (.ins C dx fs) ∧ TyX K H y tb ∧ notFirst K C tb = true ∧ sp [x, y] H (fun v H' => ∃ b, v = .bl b ∧ Q (.bl (neg != b)) H') E0
structure Qo (K : PySem.W.Frag) (C f : Addr) : Prop where
  eq : findIn K (.ref C) "__eq__" = some (some (.ref f))
  ne : findIn K (.ref C) "__ne__" = some (some (.builtin "object.__ne__"))
  ob : subIn K (.ref C) (.type "object") = some true
  fn : isFn K (.ref f) = true
section
variable {X : Cx} {n : Nat} {C f : Addr} {fd : FuncData} {ps : List Str} {sp : Sp}
theorem op_ownEq (F : FnOk X.prog X.w X.K X.mg X.base CX0 n f fd ps sp) (hr : Room n X.A) (hb : Binds X.K fd ps []) (O : Qo X.K C f) : OpR X (compareOp .Eq) (rOwnEq X.K C sp false) := by
  intro pins s σ H x y v u Q I rx ry h
  obtain ⟨q, dx, fs, tb, rfl, ha, ty, hn, hsp⟩ := h
  cases rx
  obtain ⟨mA, J, _⟩ := ins_get I.hok ha
  obtain ⟨od, J, _⟩ := J.look
  obtain ⟨m, hF⟩ := I.fr
  obtain ⟨P, Z, p, _⟩ := kit_of I ry ty
  show wpAny _ X.A (richCompare .Eq (.ref q) u) _ _ s
  refine PySem.W.cmp_K (op := .Eq) (tb := tb) hr.units0 hF I.ok.mod.kin J (Z.ty _ _ I.kIn p) hn O.eq O.fn ?_
  refine thn (run_fn (us := [.ref q, u]) F hr hb .nil pass0 I (.cons (show RelV (.ref q) (Value.ref q) from rfl) (.cons ry .nil)) hsp) fun w s' hz => ?_
  obtain ⟨z, H', I', rz, b, rfl, hq⟩ := hz
  cases rz
  refine ⟨.bl b, H', I', rfl, ?_⟩
  cases b <;> exact hq
theorem op_ownNe (F : FnOk X.prog X.w X.K X.mg X.base CX0 n f fd ps sp) (hr : Room (n + 1) X.A) (hb : Binds X.K fd ps []) (O : Qo X.K C f) : OpR X (compareOp .NotEq) (rOwnEq X.K C sp true) := by
  intro pins s σ H x y v u Q I rx ry h
  obtain ⟨q, dx, fs, tb, rfl, ha, ty, hn, hsp⟩ := h
  cases rx
  obtain ⟨mA, J, _⟩ := ins_get I.hok ha
  obtain ⟨od, J, _⟩ := J.look
  obtain ⟨m, hF⟩ := I.fr
  obtain ⟨P, Z, p, _⟩ := kit_of I ry ty
  show wpAny _ X.A (richCompare .NotEq (.ref q) u) _ _ s
  have hu : X.A.units + 1 < cLine := by have := hr.un; omega
  refine rc_ne hu hF I.ok.mod.kin J (Z.ty _ _ I.kIn p) hn O.ne O.ob O.eq O.fn ?_
  have hl := F.len _ _ _ _ hsp
  have r2 : Vals [V.ref q, y] [Value.ref q, u] := .cons (show RelV (.ref q) (Value.ref q) from rfl) (.cons ry .nil)
  refine wpAny_call (codeAny_mono (F.run X.A.in1 X.stack s H ⟨[.ref q, u], []⟩ [.ref q, u] [.ref q, y] _ E0 hr.in1 I.env0.in1 (by
    have := hb s [.ref q, u] I.kIn (by simpa using hl)
    simpa using this) r2 hsp) fun r s' hq => ?_)
  cases r with
  | error e => exact False.elim hq
  | ok fl =>
    cases fl with
    | ret w =>
      obtain ⟨z, H', I', rz, b, rfl, hk⟩ := I.after hq
      cases rz
      refine ⟨b, rfl, .bl (!b), H', I', rfl, ?_⟩
      cases b <;> exact hk
    | next => exact False.elim hq
    | brk => exact False.elim hq
    | cont => exact False.elim hq
end
end Q1

set_option Elab.async false
set_option maxRecDepth 100000
set_option maxHeartbeats 4000000
namespace Q1
open PySem L2 LamX
/-! ### the law's draws -/
/-- the law's stream of draws: its counter at most n -/
def Strm (H : Hp) (s : Addr) (n : Nat) : Prop := ∃ c m k : Int, H s = some (.lst [.int c, .int m, .int k]) ∧ 0 ≤ c ∧ 0 ≤ m ∧ m < 4294967296 ∧ 0 ≤ k ∧ k ≤ (n : Int)
theorem Strm.mono {H : Hp} {s : Addr} {n m : Nat} (h : Strm H s n) (hn : n ≤ m) : Strm H s m := by
  obtain ⟨c, d, k, h1, h2, h3, h4, h5, h6⟩ := h
  exact ⟨c, d, k, h1, h2, h3, h4, h5, by omega⟩
/-- all but the stream stays -/
def SameS (s : Addr) (H H' : Hp) : Prop := ∀ a o, a ≠ s → H a = some o → H' a = some o
theorem SameS.refl {s : Addr} (H : Hp) : SameS s H H := fun _ _ _ e => e
theorem SameS.of {s : Addr} {H H' : Hp} (h : Same H H') : SameS s H H' := fun a o _ e => h a o e
theorem SameS.trans {s : Addr} {H H1 H2 : Hp} (a : SameS s H H1) (b : SameS s H1 H2) : SameS s H H2 := fun x o n e => b x o n (a x o n e)
theorem SameS.upd {s : Addr} {H H1 : Hp} {o : HO} (h : SameS s H H1) : SameS s H (upd H1 s o) := fun a u n e => by
  rw [upd_ne n]
  exact h a u n e
theorem SameS.at {s D : Addr} {H H1 : Hp} {o : HO} (h : SameS s H H1) (hD : H D = none) : SameS s H (L2.upd H1 D o) := fun a u n e => by
  rw [upd_ne (ne_of_none e hD)]
  exact h a u n e
theorem SameS.new {s D : Addr} {H H1 : Hp} {o : HO} (h : SameS s H H1) (hD : H1 D = none) : SameS s H (L2.upd H1 D o) := fun a u n e => by
  have := h a u n e
  rw [upd_ne (ne_of_none this hD)]
  exact this
theorem SameS.none {s : Addr} {H H' : Hp} (h : SameS s H H') {a : Addr} (n : a ≠ s) (e : H' a = none) : H a = none := by
  cases q : H a with
  | none => rfl
  | some o => rw [h a o n q] at e; cases e
theorem SameS.stay {s : Addr} {S : Addr → Prop} {H H' : Hp} {u : List V} (h : SameS s H H') (hs : H s = some (.lst u)) (n : ¬ S s) : Stay S H H' := fun a o e nd => by
  by_cases q : a = s
  · subst q
    rw [hs] at e
    cases e
    rcases nd with ⟨_, _, k⟩ | ⟨_, k⟩ | k
    · exact absurd k n
    · cases k
    · cases k
  · exact h a o q e
theorem Strm.lst {H : Hp} {s : Addr} {n : Nat} (h : Strm H s n) : ∃ u, H s = some (.lst u) := by
  obtain ⟨c, m, k, h1, _⟩ := h
  exact ⟨_, h1⟩
theorem Strm.same {H H' : Hp} {s : Addr} {n : Nat} (h : Strm H s n) (e : Same H H') : Strm H' s n := by
  obtain ⟨c, m, k, h1, h2⟩ := h
  exact ⟨c, m, k, e _ _ h1, h2⟩
/-- most draws in all -/
def LIM : Nat := 1000000000
section
variable {P : Program} {w : World} {K : PySem.W.Frag} {mg : Str → Option Value} {base : Heap}
abbrev sDraw : Stmt := top 27
abbrev nDraw : List Str := ["stream", "many", "digit", "spread"]
theorem scDraw : FnScope nDraw ["stream", "many"] (defScope sDraw) := ⟨rfl, rfl, rfl, by decide +kernel, rfl, by decide +kernel, by decide +kernel⟩
def spDraw : Sp := fun vs H Q _ => ∃ (s : Addr) (n : Nat) (m : Nat), vs = [.ref s, .int (m : Nat)] ∧ Strm H s n ∧ n < LIM ∧ 0 < m ∧ m < 1000000 ∧ ∀ (u : List V) (d : Nat), d < m → Strm (upd H s (.lst u)) s (n + 1) → Q (.int (d : Nat)) (upd H s (.lst u))
def rInt1 : List V → Hp → VK → Prop := fun xs H Q => (∃ i, xs = [.int i] ∧ Q (.int i) H) ∨ ∃ k, xs = [.bl k] ∧ Q (.int (if k then 1 else 0)) H
theorem call_int1' {X : Cx} : CallR X (.type "int") rInt1 := call_int1
theorem ok_draw (B : Bt mg) (N : Dn K mg "_law_draw" sDraw ["stream", "many"]) : FnOk P w K mg base CX0 1 N.f N.fd ["stream", "many"] spDraw := by
  refine N.F.ok scDraw (fun vs H Q E h => ?_) (fun cdv A outer s H vs Q E hr h => ?_)
  · obtain ⟨s, n, m, rfl, _⟩ := h
    rfl
  · obtain ⟨a, n, m, rfl, hs, hn, hm0, hm, k⟩ := h
    refine ⟨_, pss_cons (ps_if (pt_cmp (pc_gt (pe_ix ix_list (pv 0) pe_int (fun _ _ => rfl)) pe_int) (by rfl)) 
        (pss_cons (ps_set (i := 2) scDraw.nd rfl (Or.inl rfl) (pe_op op_mod (pe_callTy call_int1' (by rfl) B.int PyProof.Rows.boot_int (pa_cons (pe_ix ix_list (pv 0) pe_int (fun _ _ => rfl)) pa_nil)) (pv 1)))
          (pss_cons (ps_asg (pe_op op_fdiv (pe_ix ix_list (pv 0) pe_int (fun _ _ => rfl)) (pv 1)) (pg_sub (pv 0) pe_int set_list)) (pss_one (ps_ret (pv 2))))) pss_nil)
      (pss_cons (ps_asg (pe_op op_add (pe_ix ix_list (pv 0) pe_int (fun _ _ => rfl)) pe_int) (pg_sub (pv 0) pe_int set_list))
      (pss_cons (ps_set (i := 3) scDraw.nd rfl (Or.inl rfl) (pe_op op_mod (pe_op op_pow (pe_callTy call_int1' (by rfl) B.int PyProof.Rows.boot_int (pa_cons (pe_op op_add (pe_op op_add (pe_ix ix_list (pv 0) pe_int (fun _ _ => rfl)) (pe_op op_mul pe_int (pe_ix ix_list (pv 0) pe_int (fun _ _ => rfl)))) pe_int) pa_nil)) pe_int) pe_int))
      (pss_one (ps_ret (pe_op op_mod (pe_op op_fdiv (pe_op op_mod (pe_callTy call_int1' (by rfl) B.int PyProof.Rows.boot_int (pa_cons (pe_op op_mul (pe_op op_add (pv 3) (pe_ix ix_list (pv 0) pe_int (fun _ _ => rfl))) pe_int) pa_nil)) pe_int) pe_int) (pv 1)))))), ?_⟩
    obtain ⟨c, x, y, hl, hc, hx0, hx1, hy0, hy1⟩ := hs
    have g0 : atI [V.int c, .int x, .int y] 0 = some (.int c) := atI_nat (j := 0) rfl
    have g1 : atI [V.int c, .int x, .int y] 1 = some (.int x) := atI_nat (j := 1) rfl
    have g2 : atI [V.int c, .int x, .int y] 2 = some (.int y) := atI_nat (j := 2) rfl
    refine ⟨_, rfl, a, _, 0, .int c, rfl, rfl, SqL.of hl, g0, c, 0, rfl, rfl, ⟨_, rfl, ?_⟩⟩
    have hm1 : (0 : Int) < ((m : Nat) : Int) := by omega
    refine ite2 (fun hcc => ?_) (fun hcc => ?_)
    · have hc1 : 0 < c := of_decide_eq_true hcc
      refine ⟨_, rfl, a, _, 0, .int c, rfl, rfl, SqL.of hl, g0, .inl ⟨c, rfl, _, rfl, c, m, rfl, rfl, hm1, ?_⟩⟩
      refine ⟨_, rfl, a, _, 0, .int c, rfl, rfl, SqL.of hl, g0, _, rfl, c, m, rfl, rfl, ⟨hm1, by omega⟩, _, rfl, a, _, 0, 0, rfl, rfl, hl, rfl, _, rfl, ?_⟩
      have hd : 0 ≤ c % (m : Int) ∧ c % (m : Int) < (m : Int) := ⟨Int.emod_nonneg _ (by omega), Int.emod_lt_of_pos _ hm1⟩
      have k' := k [.int (c / m), .int x, .int y] (c % m).toNat (by omega) ⟨c / m, x, y, upd_same, Int.ediv_nonneg hc (by omega), hx0, hx1, hy0, by omega⟩
      rw [Int.toNat_of_nonneg hd.1] at k'
      exact k'
    · refine ⟨_, rfl, a, _, 2, .int y, rfl, rfl, SqL.of hl, g2, y, 1, rfl, rfl, _, rfl, a, _, 2, 2, rfl, rfl, hl, rfl, ?_⟩
      have hl2 : upd H a (.lst [V.int c, .int x, .int (y + 1)]) a = some (.lst [V.int c, .int x, .int (y + 1)]) := upd_same
      have f1 : atI [V.int c, .int x, .int (y + 1)] 1 = some (.int x) := atI_nat (j := 1) rfl
      have f2 : atI [V.int c, .int x, .int (y + 1)] 2 = some (.int (y + 1)) := atI_nat (j := 2) rfl
      have hy2 : y + 1 < 4294967296 := by unfold LIM at hn; omega
      refine ⟨_, rfl, a, _, 1, .int x, rfl, rfl, SqL.of hl2, f1, _, rfl, a, _, 2, .int (y + 1), rfl, rfl, SqL.of hl2, f2, 7919, y + 1, rfl, rfl, .inl ⟨by decide, by decide⟩, x, _, rfl, rfl, _, 104729, rfl, rfl, .inl ⟨_, rfl, ?_⟩⟩
      generalize hz : x + 7919 * (y + 1) + 104729 = z
      refine ⟨z, 5, rfl, rfl, ⟨by decide, by decide, by omega⟩, _, 2147483647, rfl, rfl, (show (0 : Int) < 2147483647 by decide), ?_⟩
      refine ⟨_, rfl, _, rfl, a, _, 2, .int (y + 1), rfl, rfl, SqL.of hl2, f2, _, y + 1, rfl, rfl, _, 40692, rfl, rfl, .inr ⟨by decide, by decide⟩, .inl ⟨_, rfl, _, 2147483629, rfl, rfl, (show (0 : Int) < 2147483629 by decide), _, 7, rfl, rfl, ⟨by decide, by decide⟩, _, rfl, _, m, rfl, rfl, hm1, ?_⟩⟩
      obtain ⟨e, he⟩ : ∃ e, (z ^ (5 : Int).toNat % 2147483647 + (y + 1)) * 40692 % 2147483629 / 7 = e := ⟨_, rfl⟩
      have hd : 0 ≤ e % (m : Int) ∧ e % (m : Int) < (m : Int) := ⟨Int.emod_nonneg _ (by omega), Int.emod_lt_of_pos _ hm1⟩
      have k' := k [.int c, .int x, .int (y + 1)] (e % m).toNat (by omega) ⟨c, x, y + 1, upd_same, hc, hx0, hx1, by omega, by omega⟩
      rw [Int.toNat_of_nonneg hd.1, ← he] at k'
      exact k'
end
end Q1

set_option Elab.async false
set_option maxRecDepth 100000
set_option maxHeartbeats 4000000
namespace Q1
open PySem L2 LamX
mutual
/-- a datum's lists stand where the heap has something -/
theorem Rep.here {S : Addr → Prop} {H : Hp} : ∀ {d : D} {v : V}, Rep S H d v → Rep (fun a => S a ∧ H a ≠ none) H d v
  | .non, _, h => h
  | .bl _, _, h => h
  | .int _, _, h => h
  | .str _, _, h => h
  | .dic, _, h => h
  | .lst _, _, h => by
    obtain ⟨a, vs, rfl, sa, ha, r⟩ := h
    exact ⟨a, vs, rfl, ⟨sa, by rw [ha]; exact fun z => nomatch z⟩, ha, Reps.here r⟩
  | .tup _, _, h => by
    obtain ⟨a, vs, rfl, ha, r⟩ := h
    exact ⟨a, vs, rfl, ha, Reps.here r⟩
theorem Reps.here {S : Addr → Prop} {H : Hp} : ∀ {ds : List D} {vs : List V}, Reps S H ds vs → Reps (fun a => S a ∧ H a ≠ none) H ds vs
  | [], _, h => h
  | _ :: _, _, h => by
    obtain ⟨v, r, rfl, h1, h2⟩ := h
    exact ⟨v, r, rfl, Rep.here h1, Reps.here h2⟩
end
theorem Reps.mem {S : Addr → Prop} {H : Hp} {ds : List D} {vs : List V} {v : V} (h : Reps S H ds vs) (m : v ∈ vs) : ∃ d ∈ ds, Rep S H d v := by
  obtain ⟨i, hi⟩ := List.mem_iff_getElem?.mp m
  obtain ⟨d, h1, h2⟩ := h.get hi
  exact ⟨d, List.mem_of_getElem? h1, h2⟩
theorem oks_all : ∀ {n : Nat} {ds : List D}, oks n ds → ∀ d ∈ ds, d.ok n
  | _, [], _, d, h => by simp at h
  | _, x :: xs, k, d, h => by
    rcases List.mem_cons.mp h with rfl | h
    · exact k.1
    · exact oks_all k.2 d h
theorem reps_of_mem {S : Addr → Prop} {H : Hp} {p : D → Prop} : ∀ {vs : List V}, (∀ v ∈ vs, ∃ d, p d ∧ Rep S H d v) → ∃ ds, (∀ d ∈ ds, p d) ∧ Reps S H ds vs
  | [], _ => ⟨[], fun d h => by simp at h, rfl⟩
  | v :: vs, h => by
    obtain ⟨d, h1, h2⟩ := h v List.mem_cons_self
    obtain ⟨ds, h3, h4⟩ := reps_of_mem (vs := vs) fun x hx => h x (List.mem_cons_of_mem _ hx)
    refine ⟨d :: ds, fun x hx => ?_, v, vs, rfl, h2, h4⟩
    rcases List.mem_cons.mp hx with rfl | hx
    · exact h1
    · exact h3 x hx
theorem perm_erase {α : Type} {l : List α} {i : Nat} (h : i < l.length) : ([l[i]] ++ l.eraseIdx i).Perm l := by
  have e : l = l.take i ++ l[i] :: l.drop (i + 1) := by
    rw [← List.drop_eq_getElem_cons h, List.take_append_drop]
  rw [List.eraseIdx_eq_take_drop_succ]
  refine List.Perm.trans ?_ (List.Perm.of_eq e.symm)
  show (l[i] :: (l.take i ++ l.drop (i + 1))).Perm _
  exact List.perm_middle.symm
section
variable {P : Program} {w : World} {K : PySem.W.Frag} {mg : Str → Option Value} {base : Heap}
/-! ### _law_pick -/
abbrev sPick : Stmt := top 28
theorem scPick : FnScope ["stream", "some"] ["stream", "some"] (defScope sPick) := ⟨rfl, rfl, rfl, by decide +kernel, rfl, by decide +kernel, by decide +kernel⟩
def spPick : Sp := fun vs H Q _ => ∃ (s l : Addr) (n : Nat) (xs : List V), vs = [.ref s, .ref l] ∧ Strm H s n ∧ n < LIM ∧ H l = some (.lst xs) ∧ l ≠ s ∧ 0 < xs.length ∧ xs.length < 1000000 ∧
  ∀ (u : List V) (v : V), v ∈ xs → Strm (upd H s (.lst u)) s (n + 1) → Q v (upd H s (.lst u))
theorem ok_pick (B : Bt mg) (N : Dn K mg "_law_pick" sPick ["stream", "some"]) (ND : Dn K mg "_law_draw" sDraw ["stream", "many"]) : FnOk P w K mg base CX0 2 N.f N.fd ["stream", "some"] spPick := by
  have GD : FnOk P w K mg base CX0 1 ND.f ND.fd ["stream", "many"] spDraw := ok_draw B ND
  refine N.F.ok scPick (fun vs H Q E h => ?_) (fun cdv A outer s H vs Q E hr h => ?_)
  · obtain ⟨s, l, n, xs, rfl, _⟩ := h
    rfl
  · obtain ⟨a, l, n, xs, rfl, hs, hn, hl, hne, h0, h1, k⟩ := h
    refine ⟨_, pss_one (ps_ret (pe_ix ix_list (pv 1) (pe_call GD hr (by rfl) ND.g ND.F.kp ND.b .nil pass0 (pa_cons (pv 0) (pa_cons (pe_callB call_len_seq (by rfl) B.len boot_len (pa_cons (pv 1) pa_nil)) pa_nil))) (fun _ _ => rfl))), ?_⟩
    refine ⟨_, rfl, _, rfl, _, rfl, l, xs, rfl, .inl (SqL.of hl), a, n, xs.length, rfl, hs, hn, h0, h1, fun u d hd hs' => ?_⟩
    have hl2 : upd H a (.lst u) l = some (.lst xs) := by rw [upd_ne hne]; exact hl
    have hx : xs[d]? = some xs[d] := by simp [hd]
    exact ⟨l, xs, d, xs[d], rfl, rfl, SqL.of hl2, atI_nat hx, k u _ (List.getElem_mem hd) hs'⟩
/-! ### _law_mixed -/
abbrev sMixed : Stmt := top 29
abbrev nMixed : List Str := ["stream", "some", "rest", "found"]
theorem scMixed : FnScope nMixed ["stream", "some"] (defScope sMixed) := ⟨rfl, rfl, rfl, by decide +kernel, rfl, by decide +kernel, by decide +kernel⟩
def spMixed (K : PySem.W.Frag) : Sp := fun vs H Q _ => ∃ (S : Addr → Prop) (s l : Addr) (n : Nat) (xs : List V) (ds : List D), vs = [.ref s, .ref l] ∧ Strm H s n ∧ n + xs.length < LIM ∧ (SqL K H l xs ∨ SqT K H l xs) ∧ Reps S H ds xs ∧ ¬ S s ∧ oks 8 ds ∧ xs.length < 1000000 ∧
  ∀ H' r ys, SameS s H H' → ys.Perm xs → H r = none → H' r = some (.lst ys) → Strm H' s (n + xs.length) → Q (.ref r) H'
theorem ok_mixed (B : Bt mg) (N : Dn K mg "_law_mixed" sMixed ["stream", "some"]) (ND : Dn K mg "_law_draw" sDraw ["stream", "many"]) : FnOk P w K mg base CX0 2 N.f N.fd ["stream", "some"] (spMixed K) := by
  have GD : FnOk P w K mg base CX0 1 ND.f ND.fd ["stream", "many"] spDraw := ok_draw B ND
  refine N.F.ok scMixed (fun vs H Q E h => ?_) (fun cdv A outer s H vs Q E hr h => ?_)
  · obtain ⟨S, s, l, n, xs, ds, rfl, _⟩ := h
    rfl
  · obtain ⟨S, a, l, n, xs, ds, rfl, hs, hn, hl, hd, hS, hok, hsz, k⟩ := h
    refine ⟨_, pss_cons (ps_par (i := 2) (j := 3) (by rfl) scMixed.nd rfl rfl (by decide) rfl rfl (pa_cons (pe_callTy call_listOf (by rfl) B.lst PyProof.Rows.boot_list (pa_cons (pv 1) pa_nil)) (pa_cons (pe_lst pa_nil) pa_nil)) (by rfl))
      (pss_cons (ps_while PassesOwn.never (pt_cmpR (op_neD hr.units) (pv 2) (pe_lst pa_nil) (nomark _)) (pss_one (ps_expr (pe_bm PySem.F.plainAttrs_list PySem.F.slot_list_append PySem.F.type_list_append mt_append (pv 3)
        (pa_cons (pe_bm PySem.F.plainAttrs_list PySem.F.slot_list_pop PySem.F.type_list_pop mt_popAt (pv 2) (pa_cons (pe_call GD hr (by rfl) ND.g ND.F.kp ND.b .nil pass0 (pa_cons (pv 0) (pa_cons (pe_callB call_len_seq (by rfl) B.len boot_len (pa_cons (pv 2) pa_nil)) pa_nil))) pa_nil)) pa_nil)))))
      (pss_one (ps_ret (pv 3)))), ?_⟩
    refine ⟨_, rfl, l, xs, rfl, hl, fun lr hlr => ⟨Nat.zero_le _, fun lf hlf => ⟨_, _, rfl, ?_⟩⟩⟩
    obtain ⟨u0, hu0⟩ := hs.lst
    have nra : lr ≠ a := fun z => by rw [z, hu0] at hlr; cases hlr
    have e1 : upd H lr (.lst xs) lr = some (.lst xs) := upd_same
    have nfr : lr ≠ lf := ne_of_none e1 hlf
    have hlfH : H lf = none := by
      have z := hlf
      rw [upd_ne (Ne.symm nfr)] at z
      exact z
    have nfa : lf ≠ a := fun z => by rw [z, hu0] at hlfH; cases hlfH
    have hd0 := hd.here
    have oka := oks_all hok
    refine while_by (fun σ H' => σ = [some (.ref a), some (.ref l), some (.ref lr), some (.ref lf)] ∧ SameS a H H' ∧ ∃ rs fs, H' lr = some (.lst rs) ∧ H' lf = some (.lst fs) ∧ (fs ++ rs).Perm xs ∧ Strm H' a (n + fs.length))
      (fun σ H' => match H' lr with | some (.lst rs) => rs.length | _ => 0) ⟨rfl, ((SameS.refl H).at hlr).new hlf, xs, [], by rw [upd_ne nfr]; exact upd_same, upd_same, by simp, ?_⟩ ?_ ?_
    · obtain ⟨c, x, y, h1, h2⟩ := hs
      exact ⟨c, x, y, by rw [upd_ne (Ne.symm nfa), upd_ne (Ne.symm nra)]; exact h1, h2⟩
    · rintro σ H1 ⟨rfl, sm, rs, fs, hr1, hf1, hp, hs1⟩
      refine ⟨_, rfl, Nat.zero_le _, fun p hpn => ?_⟩
      have sm2 : SameS a H (upd H1 p (.lst [])) := sm.new hpn
      have hr2 : upd H1 p (.lst []) lr = some (.lst rs) := by rw [upd_ne (ne_of_none hr1 hpn)]; exact hr1
      have hf2 : upd H1 p (.lst []) lf = some (.lst fs) := by rw [upd_ne (ne_of_none hf1 hpn)]; exact hf1
      have hs2 : Strm (upd H1 p (.lst [])) a (n + fs.length) := hs1.same (Same.new hpn)
      have hp2 : upd H1 p (.lst []) p = some (.lst []) := upd_same
      generalize upd H1 p (.lst []) = H2 at sm2 hr2 hf2 hs2 hp2 ⊢
      obtain ⟨es, hes, res⟩ := reps_of_mem (S := fun b => S b ∧ H b ≠ none) (H := H2) (p := fun d => d.ok 8) (vs := rs) (fun v hv => by
        obtain ⟨d, hd1, hd2⟩ := hd0.mem (hp.subset (List.mem_append_right _ hv))
        exact ⟨d, oka d hd1, Rep.mono (fun _ z => z) (sm2.stay hu0 (fun z => hS z.1)) hd2⟩)
      have hlen : rs.length = es.length := res.length
      have hperm := hp.length_eq
      rw [List.length_append] at hperm
      refine ⟨(D.lst es).py, (D.lst []).py, .lst (SqL.of hr2) (res.dp (oks_mem hes)), .lst (SqL.of hp2) .nil, D.ok_shaped (n := 9) (d := D.lst es) (oks_mem hes) (by decide), D.ok_shaped (n := 1) (d := D.lst []) trivial (by decide), ⟨_, rfl, ?_⟩⟩
      cases hes0 : es with
      | nil =>
        rw [hes0] at hlen
        have hrs : rs = [] := List.length_eq_zero_iff.mp hlen
        subst hrs
        rw [List.append_nil] at hp
        refine iteF ?_
        refine ⟨_, rfl, k H2 lf fs sm2 hp hlfH hf2 ?_⟩
        rw [← hp.length_eq]
        exact hs2
      | cons e0 es0 =>
        rw [hes0] at hlen
        refine iteT ?_
        have hrl : 0 < rs.length := by rw [hlen]; exact Nat.succ_pos _
        refine ⟨_, rfl, .inl ⟨rfl, _, SqL.of hf2⟩, _, rfl, .inl ⟨rfl, _, SqL.of hr2⟩, _, rfl, _, rfl, lr, rs, rfl, .inl (SqL.of hr2), a, n + fs.length, rs.length, rfl, hs2, by omega, hrl, by omega, fun u d hd hs3 => ?_⟩
        have sm3 : SameS a H (upd H2 a (.lst u)) := sm2.upd
        have hr3 : upd H2 a (.lst u) lr = some (.lst rs) := by rw [upd_ne nra]; exact hr2
        have hf3 : upd H2 a (.lst u) lf = some (.lst fs) := by rw [upd_ne nfa]; exact hf2
        generalize upd H2 a (.lst u) = H3 at sm3 hr3 hf3 hs3 ⊢
        have hx : rs[d]? = some rs[d] := by simp [hd]
        refine ⟨lr, rs, d, d, rs[d], rfl, rfl, hr3, by omega, by omega, seqIndex_of (by omega) (by omega), hx, ?_⟩
        have hf4 : upd H3 lr (.lst (rs.eraseIdx d)) lf = some (.lst fs) := by rw [upd_ne (Ne.symm nfr)]; exact hf3
        refine ⟨lf, fs, rs[d], rfl, rfl, hf4, Nat.lt_of_lt_of_le (show fs.length < 1000000 by omega) (by decide), ?_⟩
        have hr5 : upd (upd H3 lr (.lst (rs.eraseIdx d))) lf (.lst (fs ++ [rs[d]])) lr = some (.lst (rs.eraseIdx d)) := by rw [upd_ne nfr]; exact upd_same
        refine ⟨⟨rfl, (sm3.at hlr).at hlfH, rs.eraseIdx d, fs ++ [rs[d]], hr5, upd_same, ?_, ?_⟩, ?_⟩
        · rw [List.append_assoc]
          refine List.Perm.trans (List.Perm.append_left fs ?_) hp
          exact perm_erase hd
        · obtain ⟨c, x, y, h1, h2, h3, h4, h5, h6⟩ := hs3
          exact ⟨c, x, y, by rw [upd_ne (Ne.symm nfa), upd_ne (Ne.symm nra)]; exact h1, h2, h3, h4, h5, by rw [List.length_append]; simp only [List.length_cons, List.length_nil]; omega⟩
        · show (match upd (upd H3 lr (.lst (rs.eraseIdx d))) lf (.lst (fs ++ [rs[d]])) lr with | some (.lst rs) => rs.length | _ => 0) < (match H1 lr with | some (.lst rs) => rs.length | _ => 0)
          rw [hr5, hr1]
          show (rs.eraseIdx d).length < rs.length
          rw [List.length_eraseIdx_of_lt hd]
          omega
    · rintro σ H1 Q1 Q2 hq ⟨v, hv, z, hz⟩
      exact ⟨v, hv, z, fun p hp => let ⟨d, e, a1, a2, a3, a4, k1, k2, q⟩ := hz p hp; ⟨d, e, a1, a2, a3, a4, k1, k2, hq _ _ q⟩⟩
end
end Q1

set_option Elab.async false
set_option maxRecDepth 100000
set_option maxHeartbeats 4000000
namespace Q1
open PySem L2 LamX
section
variable {P : Program} {w : World} {K : PySem.W.Frag} {mg : Str → Option Value} {base : Heap}
/-! ### _law_stream -/
abbrev sStream : Stmt := top 26
abbrev nStream : List Str := ["script", "k", "cell", "mixed", "at", "one"]
theorem scStream : FnScope nStream ["script", "k"] (defScope sStream) := ⟨rfl, rfl, rfl, by decide +kernel, rfl, by decide +kernel, by decide +kernel⟩
def rAbs : List V → Hp → VK → Prop := fun xs H Q => ∃ i, xs = [.int i] ∧ Q (.int (if i < 0 then -i else i)) H
theorem call_abs' {X : Cx} : CallR X (.builtin "abs") rAbs := call_abs
def spStream (K : PySem.W.Frag) : Sp := fun vs H Q _ => ∃ (l : Addr) (k : Nat) (ns : List Int), vs = [.ref l, .int (k : Nat)] ∧ SqL K H l (ns.map V.int) ∧ k < 1000 ∧ ns.length < 1000000 ∧
  ∀ H' s, Same H H' → H s = none → Strm H' s 0 → Q (.ref s) H'
theorem cutV_ints (ns : List Int) (lo hi : Option Int) : ∃ ms : List Int, cutV (ns.map V.int) lo hi = ms.map V.int := by
  unfold cutV
  exact ⟨_, by rw [← List.map_drop, ← List.map_take]⟩
theorem tIf_two {tc : TT} {ta tb : TE} {σ : L2.St} {H : Hp} {Q : VK} (R : V → Hp → Prop) (h : ∀ Q' : VK, (∀ v H1, R v H1 → Q' v H1) → tIf tc ta tb σ H Q') (k : ∀ v H1, R v H1 → Q v H1) : tIf tc ta tb σ H Q := h Q k
theorem ok_stream (B : Bt mg) (N : Dn K mg "_law_stream" sStream ["script", "k"]) : FnOk P w K mg base CX0 1 N.f N.fd ["script", "k"] (spStream K) := by
  refine N.F.ok scStream (fun vs H Q E h => ?_) (fun cdv A outer s H vs Q E hr h => ?_)
  · obtain ⟨l, k, ns, rfl, _⟩ := h
    rfl
  · obtain ⟨l, m, ns, rfl, hl, hm, hn, k⟩ := h
    refine ⟨_, pss_cons (ps_set (i := 2) scStream.nd rfl (Or.inl rfl) (pe_ifExp (pt_cmp (pc_lt (pv 1) (pe_callB call_len_seq (by rfl) B.len boot_len (pa_cons (pv 0) pa_nil))) (by rfl))
        (pe_callB call_abs' (by rfl) B.abs PyProof.Rows.boot_abs (pa_cons (pe_ix ix_list (pv 0) (pv 1) (fun _ _ => rfl)) pa_nil))
        (pe_op op_add (pe_op op_mod (pe_callTy call_int1' (by rfl) B.int PyProof.Rows.boot_int (pa_cons (pe_callB (cr_sum rfl) (by rfl) B.sum PyProof.Rows.boot_sum (pa_cons (pe_slice sl_list (pv 0) po_none (po_some pe_int)) pa_nil)) pa_nil)) pe_int) (pe_op op_mul pe_int (pv 1)))))
      (pss_cons (ps_set (i := 3) scStream.nd rfl (Or.inl rfl) (pe_op op_mod (pe_callB (cr_sum rfl) (by rfl) B.sum PyProof.Rows.boot_sum (pa_cons
        (pe_lc (own := [("at", 4), ("one", 5)]) (g := gTup K 2 (gCons (gName 4) (gCons (gName 5) gNil))) (tt := tYes) (te := tOp (rI CMul fun i j => .int (i * j)) (tOp (rI0 fun i j => .int (i + j)) (tVar 4) (tC (.int 1))) (tCB rInt1 (tCons (tCB rAbs (tCons (tVar 5) tNil)) tNil))) rfl scStream.nd (pi_enum (by rfl) B.enumerate (pa_cons (pv 0) pa_nil)) (blkOk_by (own := [("at", 4), ("one", 5)]) (N := nStream) (sc := defScope sStream) (by decide +kernel))
          (fun _ _ _ _ _ => pg_tup (by rfl) (pgs_cons (pg_name (i := 4) scStream.nd (by rfl) (Or.inl (by rfl)) (by exact .inr rfl)) (pgs_cons (pg_name (i := 5) scStream.nd (by rfl) (Or.inl (by rfl)) (by exact .inr rfl)) pgs_nil))) (fun _ _ _ _ _ => pts_nil)
          (fun _ _ _ _ _ => pe_op op_mul (pe_op op_add (pv 4) pe_int) (pe_callTy call_int1' (by rfl) B.int PyProof.Rows.boot_int (pa_cons (pe_callB call_abs' (by rfl) B.abs PyProof.Rows.boot_abs (pa_cons (pv 5) pa_nil)) pa_nil)))) pa_nil)) pe_int))
      (pss_one (ps_ret (pe_lst (pa_cons (pe_ifExp (pt_cmp (pc_ge (pv 2) (pe_op op_pow pe_int pe_int)) (by rfl)) (pv 2) pe_int)
        (pa_cons (pe_op op_add (pe_op op_mod (pe_callTy call_int1' (by rfl) B.int PyProof.Rows.boot_int (pa_cons (pe_op op_add (pv 2) (pv 3)) pa_nil)) pe_int) (pe_op op_mul pe_int (pv 1))) (pa_cons pe_int pa_nil))))))), ?_⟩
    refine tIf_two (R := fun v H1 => ∃ c : Int, v = .int c ∧ 0 ≤ c ∧ Same H H1) (fun Q' hQ => ?_) ?_
    · refine ⟨_, rfl, _, rfl, l, _, rfl, .inl hl, m, _, rfl, rfl, ⟨_, rfl, ite2 (fun h1 => ?_) (fun h1 => ?_)⟩⟩
      · have h2 : m < ns.length := by have := of_decide_eq_true h1; rw [List.length_map] at this; omega
        refine ⟨_, rfl, _, rfl, l, _, m, .int ns[m], rfl, rfl, hl, atI_nat (by rw [List.getElem?_map, List.getElem?_eq_getElem h2]; rfl), _, rfl, hQ _ _ ⟨_, rfl, ?_, fun _ _ e => e⟩⟩
        split <;> omega
      · refine ⟨_, rfl, 1, rfl, l, _, rfl, hl, fun p hp => ?_⟩
        obtain ⟨ms, hms⟩ := cutV_ints ns none (some 1)
        rw [hms]
        refine ⟨p, ms, rfl, SqL.of upd_same, .inl ⟨_, rfl, _, 1000003, rfl, rfl, (show (0 : Int) < 1000003 by decide), _, rfl, 7, m, rfl, rfl, .inl ⟨by decide, by decide⟩, _, _, rfl, rfl, hQ _ _ ⟨_, rfl, ?_, Same.new hp⟩⟩⟩
        have := Int.emod_nonneg ms.sum (show (1000003 : Int) ≠ 0 by decide)
        omega
    · rintro _ H1 ⟨c, rfl, hc, sm⟩
      have hl1 : SqL K H1 l (ns.map V.int) := extN_seqL (extN_of sm) hl
      refine ⟨_, rfl, l, _, rfl, hl1, fun D0 hD => lc_it walk_enum (fun i H' => Same H1 H' ∧ ∃ zs : List Int, H' D0 = some (.lst (zs.map V.int)) ∧ zs.length = i) ⟨Same.new hD, [], upd_same, rfl⟩ (fun i H' _ h => extN_seqL (extN_of h.1) hl1) ?_ ?_⟩
      · rintro i x H' H2 hi ⟨sm', zs, hz, hzl⟩ ⟨T0, v1, v2, rfl, hT0, rfl, hv1, hv2⟩
        cases hv1
        have hv2 : (ns.map V.int)[i]? = some v2 := hv2
        rw [List.getElem?_map] at hv2
        cases hni : ns[i]? with
        | none => rw [hni] at hv2; cases hv2
        | some j =>
          rw [hni] at hv2
          cases hv2
          have hi2 : i < 1000000 := by rw [List.length_map] at hi; omega
          have hz2 : upd H' T0 (.tup [.int (i : Nat), .int j]) D0 = some (.lst (zs.map V.int)) := by rw [upd_ne (ne_of_none hz hT0)]; exact hz
          refine ⟨T0, _, rfl, SqT.of upd_same, rfl, ?_⟩
          refine ⟨_, _, rfl, _, _, rfl, rfl, ?_⟩
          refine ⟨rfl, ?_⟩
          refine ⟨_, rfl, (i : Nat), 1, rfl, rfl, _, rfl, j, rfl, .inl ⟨_, rfl, _, _, rfl, rfl, .inl ⟨by omega, by omega⟩, zs.map V.int, hz2, ?_, Same.at (sm'.trans (Same.new hT0)) hD, zs ++ [((i : Nat) + 1) * (if j < 0 then -j else j)], ?_, ?_⟩⟩
          · rw [List.length_map, hzl]
            exact Nat.lt_of_lt_of_le hi2 (by decide)
          · rw [upd_same, List.map_append]
            rfl
          · rw [List.length_append, hzl]
            rfl
      · rintro H2 ⟨sm', zs, hz, hzl⟩
        refine ⟨D0, zs, rfl, SqL.of hz, _, 2147483647, rfl, rfl, (show (0 : Int) < 2147483647 by decide), ?_⟩
        have hx : 0 ≤ zs.sum % 2147483647 := Int.emod_nonneg _ (by decide)
        show tIf (tB (tGe (tVar 2) (tOp (rI CPow fun i j => V.int (i ^ j.toNat)) (tC (V.int 10)) (tC (V.int 18))))) (tVar 2) (tC (V.int 0)) [some (.ref l), some (.int m), some (.int c), some (.int (zs.sum % 2147483647)), none, none] H2 _
        refine tIf_two (R := fun v H3 => ∃ e : Int, v = .int e ∧ 0 ≤ e ∧ H3 = H2) (fun Q' hQ => ?_) ?_
        · refine ⟨_, rfl, 10, 18, rfl, rfl, ⟨by decide, by decide, by decide⟩, c, _, rfl, rfl, ⟨_, rfl, ite2 (fun h1 => ?_) (fun h1 => ?_)⟩⟩
          · exact ⟨_, rfl, hQ _ _ ⟨_, rfl, hc, rfl⟩⟩
          · exact hQ _ _ ⟨0, rfl, by decide, rfl⟩
        · rintro _ _ ⟨e, rfl, he, rfl⟩
          refine ⟨_, rfl, _, rfl, c, _, rfl, rfl, .inl ⟨_, rfl, _, 2147483647, rfl, rfl, (show (0 : Int) < 2147483647 by decide), _, rfl, 31, m, rfl, rfl, .inl ⟨by decide, by decide⟩, _, _, rfl, rfl, by show 3 ≤ sizeLine; decide, fun q hq => ?_⟩⟩
          have smH := sm.trans sm'
          have hy := Int.emod_nonneg (c + zs.sum % 2147483647) (show (2147483647 : Int) ≠ 0 by decide)
          have hy2 := Int.emod_lt_of_pos (c + zs.sum % 2147483647) (show (0 : Int) < 2147483647 by decide)
          exact k _ q (smH.trans (Same.new hq)) (by cases z : H q with
            | none => rfl
            | some o => rw [smH _ _ z] at hq; cases hq) ⟨e, _, 0, upd_same, he, by omega, by omega, by omega, by omega⟩
end
end Q1

set_option Elab.async false
set_option maxRecDepth 100000
set_option maxHeartbeats 4000000
namespace Q1
open PySem L2 LamX
def strV : V → Str
  | .str x => x
  | _ => ""
theorem perm_strs {ys : List V} {L : List Str} (h : ys.Perm (L.map V.str)) : ∃ l : List Str, l.Perm L ∧ ys = l.map V.str := by
  refine ⟨ys.map strV, ?_, ?_⟩
  · have := h.map strV
    rw [List.map_map] at this
    have e : L.map (strV ∘ V.str) = L := by
      rw [show (strV ∘ V.str) = id from rfl, List.map_id]
    rw [e] at this
    exact this
  · rw [List.map_map]
    refine (List.map_id ys).symm.trans (List.map_congr_left fun v hv => ?_)
    obtain ⟨x, _, rfl⟩ := List.mem_map.mp (h.subset hv)
    rfl
theorem cutV_take (xs : List V) (k : Nat) : cutV xs none (some (k : Int)) = xs.take k := by
  unfold cutV
  rw [HT.sIx_none, HT.sIx_nat, List.drop_zero, Nat.sub_zero]
  by_cases h : k ≤ xs.length
  · rw [Nat.min_eq_left h]
  · rw [Nat.min_eq_right (by omega), List.take_of_length_le (Nat.le_refl _), List.take_of_length_le (by omega)]
/-- the names that the law draws -/
def qNames : List Str := ["a", "b", "x", "y1", "lamp", "eightsgn", "eightsga", "we", "wish", "guard", "q0", "they", "ab", "z", "m", "chance"]
theorem ok_str {n : Nat} {x : Str} (h : PyData.strOk x = true) : (D.str x).ok n := by
  cases n <;> simpa only [D.ok] using h
theorem oks_strs (n : Nat) {l : List Str} (h : ∀ x ∈ l, PyData.strOk x = true) : oks n (l.map D.str) := oks_mem fun d hd => by
  obtain ⟨x, hx, rfl⟩ := List.mem_map.mp hd
  exact ok_str (h x hx)
theorem qNames_ok : ∀ x ∈ qNames, PyData.strOk x = true := by decide +kernel
section
variable {P : Program} {w : World} {K : PySem.W.Frag} {mg : Str → Option Value} {base : Heap}
/-! ### _law_q_names -/
abbrev sQNames : Stmt := top 32
abbrev nQNames : List Str := ["stream", "many", "some"]
theorem scQNames : FnScope nQNames ["stream", "many"] (defScope sQNames) := ⟨rfl, rfl, rfl, by decide +kernel, rfl, by decide +kernel, by decide +kernel⟩
def spQNames : Sp := fun vs H Q _ => ∃ (s : Addr) (n m : Nat), vs = [.ref s, .int (m : Nat)] ∧ Strm H s n ∧ n + 100 < LIM ∧ m ≤ 16 ∧
  ∀ H' r names, SameS s H H' → H r = none → H' r = some (.lst (List.map V.str names)) → names.Nodup → names.length = m → (∀ x ∈ names, x ∈ qNames) → Strm H' s (n + 100) → Q (.ref r) H'
theorem ok_qnames (B : Bt mg) (N : Dn K mg "_law_q_names" sQNames ["stream", "many"]) (NM : Dn K mg "_law_mixed" sMixed ["stream", "some"]) (ND : Dn K mg "_law_draw" sDraw ["stream", "many"]) : FnOk P w K mg base CX0 3 N.f N.fd ["stream", "many"] spQNames := by
  have GM : FnOk P w K mg base CX0 2 NM.f NM.fd ["stream", "some"] (spMixed K) := ok_mixed B NM ND
  refine N.F.ok scQNames (fun vs H Q E h => ?_) (fun cdv A outer s H vs Q E hr h => ?_)
  · obtain ⟨s, n, m, rfl, _⟩ := h
    rfl
  · obtain ⟨a, n, m, rfl, hs, hn, hm, k⟩ := h
    refine ⟨_, pss_cons (ps_set (i := 2) scQNames.nd rfl (Or.inl rfl) (pe_lst (pa_cons pe_str (pa_cons pe_str (pa_cons pe_str (pa_cons pe_str (pa_cons pe_str (pa_cons pe_str (pa_cons pe_str (pa_cons pe_str (pa_cons pe_str (pa_cons pe_str (pa_cons pe_str (pa_cons pe_str (pa_cons pe_str (pa_cons pe_str pa_nil))))))))))))))))
      (pss_one (ps_ret (pe_slice sl_list (pe_call GM hr (by rfl) NM.g NM.F.kp NM.b .nil pass0 (pa_cons (pv 0) (pa_cons (pe_op op_cat (pv 2) (pe_lst (pa_cons pe_str (pa_cons pe_str pa_nil)))) pa_nil))) po_none (po_some (pv 1))))), ?_⟩
    refine ⟨by show 14 ≤ sizeLine; decide, fun p1 hp1 => ?_⟩
    refine ⟨_, rfl, _, rfl, by show 2 ≤ sizeLine; decide, fun p2 hp2 => ?_⟩
    refine ⟨p1, p2, _, _, rfl, rfl, (by rw [upd_ne (ne_of_none upd_same hp2)]; exact upd_same), upd_same, (by show 16 ≤ sizeLine; decide), fun p3 hp3 => ?_⟩
    have sm := (((SameS.refl (s := a) H).new hp1 (o := .lst [.str "a", .str "b", .str "x", .str "y1", .str "lamp", .str "eightsgn", .str "eightsga", .str "we", .str "wish", .str "guard", .str "q0", .str "they", .str "ab", .str "z"])).new hp2 (o := .lst [.str "m", .str "chance"])).new hp3 (o := .lst (qNames.map V.str))
    have smm := ((Same.new hp1 (o := .lst [.str "a", .str "b", .str "x", .str "y1", .str "lamp", .str "eightsgn", .str "eightsga", .str "we", .str "wish", .str "guard", .str "q0", .str "they", .str "ab", .str "z"])).trans (Same.new hp2 (o := .lst [.str "m", .str "chance"]))).trans (Same.new hp3 (o := .lst (qNames.map V.str)))
    refine ⟨fun _ => False, a, p3, n, qNames.map V.str, qNames.map D.str, rfl, hs.same smm, by show n + 16 < LIM; omega, .inl (SqL.of upd_same), reps_map fun _ _ => rfl, fun z => z, oks_strs 8 fun x hx => qNames_ok x hx, by decide, fun H' r ys sm' perm hr0 hr1 hs' => ?_⟩
    obtain ⟨l, lp, rfl⟩ := perm_strs perm
    refine ⟨_, rfl, _, rfl, r, _, rfl, SqL.of hr1, fun q hq => ?_⟩
    rw [cutV_take, ← List.map_take]
    refine k _ q (l.take m) ((sm.trans sm').new hq) ?_ upd_same ?_ ?_ ?_ ?_
    · exact (sm.trans sm').none (fun z => by
        obtain ⟨u, hu⟩ := hs'.lst
        rw [z, hu] at hq
        cases hq) hq
    · exact List.Sublist.nodup (List.take_sublist _ _) (lp.symm.nodup (by decide +kernel))
    · rw [List.length_take, lp.length_eq]
      exact Nat.min_eq_left hm
    · exact fun x hx => lp.subset (List.mem_of_mem_take hx)
    · exact (hs'.mono (by show n + 16 ≤ n + 100; omega)).same (Same.new hq)
end
end Q1

set_option Elab.async false
set_option maxRecDepth 100000
set_option maxHeartbeats 4000000
namespace Q1
open PySem L2 LamX
/-- the hands that the law draws -/
def qHands : List D := [.tup [.int 1, .int 2], .tup [.int 1, .int 3], .tup [.int 2, .int 4], .tup [.int 3, .int 4], .tup [.int 999, .int 1000], .tup [.int 2, .int 5], .str "we", .str "they"]
theorem qHands_ok {d : D} (h : d ∈ qHands) : d.isHand = true ∧ handD d = d ∧ d.free ∧ d.ok 8 := by
  simp only [qHands, List.mem_cons, List.not_mem_nil, or_false] at h
  rcases h with rfl | rfl | rfl | rfl | rfl | rfl | rfl | rfl
  all_goals first
    | exact ⟨by decide +kernel, rfl, ⟨trivial, trivial, trivial⟩, ⟨trivial, trivial, trivial⟩⟩
    | exact ⟨by decide +kernel, rfl, trivial, ok_str (by decide +kernel)⟩
section
variable {P : Program} {w : World} {K : PySem.W.Frag} {mg : Str → Option Value} {base : Heap}
/-! ### _law_q_hand -/
abbrev sQHand : Stmt := top 33
theorem scQHand : FnScope ["stream", "is_chance"] ["stream", "is_chance"] (defScope sQHand) := ⟨rfl, rfl, rfl, by decide +kernel, rfl, by decide +kernel, by decide +kernel⟩
def spQHand : Sp := fun vs H Q _ => ∃ (s : Addr) (n : Nat) (b : Bool), vs = [.ref s, .bl b] ∧ Strm H s n ∧ n + 2 < LIM ∧ ∀ H' v d, SameS s H H' → Rep (fun _ => False) H' d v → d ∈ qHands → Strm H' s (n + 2) → Q v H'
theorem ok_qhand (B : Bt mg) (N : Dn K mg "_law_q_hand" sQHand ["stream", "is_chance"]) (NP : Dn K mg "_law_pick" sPick ["stream", "some"]) (ND : Dn K mg "_law_draw" sDraw ["stream", "many"]) : FnOk P w K mg base CX0 3 N.f N.fd ["stream", "is_chance"] spQHand := by
  have GP : FnOk P w K mg base CX0 2 NP.f NP.fd ["stream", "some"] spPick := ok_pick B NP ND
  have GD : FnOk P w K mg base CX0 1 ND.f ND.fd ["stream", "many"] spDraw := ok_draw B ND
  refine N.F.ok scQHand (fun vs H Q E h => ?_) (fun cdv A outer s H vs Q E hr h => ?_)
  · obtain ⟨s, n, m, rfl, _⟩ := h
    rfl
  · obtain ⟨a, n, b, rfl, hs, hn, k⟩ := h
    refine ⟨_, pss_cons (ps_if (PW.pt (pw_and (pt_val (pv 1) (fun _ => rfl)) (pw_and1 (pt_cmpR op_eq (pe_call GD (hr.mono (by decide)) (by rfl) ND.g ND.F.kp ND.b .nil pass0 (pa_cons (pv 0) (pa_cons pe_int pa_nil))) pe_int (nomark _)))))
        (pss_one (ps_ret (pe_call GP hr (by rfl) NP.g NP.F.kp NP.b .nil pass0 (pa_cons (pv 0) (pa_cons (pe_lst (pa_cons (pe_tup (pa_cons pe_int (pa_cons pe_int pa_nil))) (pa_cons (pe_tup (pa_cons pe_int (pa_cons pe_int pa_nil))) (pa_cons (pe_tup (pa_cons pe_int (pa_cons pe_int pa_nil))) (pa_cons (pe_tup (pa_cons pe_int (pa_cons pe_int pa_nil))) (pa_cons (pe_tup (pa_cons pe_int (pa_cons pe_int pa_nil))) (pa_cons (pe_tup (pa_cons pe_int (pa_cons pe_int pa_nil))) pa_nil))))))) pa_nil))))) pss_nil)
      (pss_one (ps_ret (pe_call GP hr (by rfl) NP.g NP.F.kp NP.b .nil pass0 (pa_cons (pv 0) (pa_cons (pe_lst (pa_cons pe_str (pa_cons pe_str pa_nil))) pa_nil))))), ?_⟩
    have last : ∀ H1 n1, SameS a H H1 → Strm H1 a n1 → n1 ≤ n + 1 → tRet (tCall spPick [] E0 (tCons (tVar 0) (tCons (tLst (tCons (tC (.str "we")) (tCons (tC (.str "they")) tNil))) tNil))) { nx := fun _ H' => Q V.non H', rt := Q } [some (.ref a), some (.bl b)] H1 := fun H1 n1 sm hs1 h1 => by
      refine ⟨_, rfl, by show 2 ≤ sizeLine; decide, fun p hp => ?_⟩
      obtain ⟨u0, hu0⟩ := hs1.lst
      have npa : p ≠ a := fun z => by rw [z, hu0] at hp; cases hp
      refine ⟨a, p, n1, _, rfl, hs1.same (Same.new hp), by omega, upd_same, npa, by show 0 < 2; decide, by show 2 < 1000000; decide, fun u v hv hs2 => ?_⟩
      have sm2 : SameS a H (upd (upd H1 p (.lst [V.str "we", .str "they"])) a (.lst u)) := (sm.new hp).upd
      have e : v = .str "we" ∨ v = .str "they" := by simpa using hv
      rcases e with rfl | rfl
      · exact k _ _ (.str "we") sm2 rfl (by simp [qHands]) (hs2.mono (by omega))
      · exact k _ _ (.str "they") sm2 rfl (by simp [qHands]) (hs2.mono (by omega))
    cases b with
    | false => exact ⟨_, rfl, _, rfl, iteF (last H n (SameS.refl H) hs (by omega))⟩
    | true =>
      refine ⟨_, rfl, _, rfl, iteT ?_⟩
      refine ⟨_, rfl, a, n, 3, rfl, hs, by omega, by decide, by decide, fun u d hd hs1 => ?_⟩
      have sm0 : SameS a H (upd H a (.lst u)) := (SameS.refl H).upd
      generalize upd H a (.lst u) = G0 at sm0 hs1 ⊢
      refine ⟨rfl, _, rfl, ite2 (fun hd0 => ?_) (fun hd0 => ?_)⟩
      · refine ⟨_, rfl, ?_⟩
        refine ⟨by show 2 ≤ sizeLine; decide, fun p1 h1 => ?_⟩
        have e1 : Same G0 (upd G0 p1 (.tup [.int 1, .int 2])) := Same.new h1
        have f1 : upd G0 p1 (.tup [.int 1, .int 2]) p1 = some (.tup [.int 1, .int 2]) := upd_same
        generalize upd G0 p1 (.tup [.int 1, .int 2]) = G1 at e1 f1 ⊢
        refine ⟨by show 2 ≤ sizeLine; decide, fun p2 h2 => ?_⟩
        have e2 : Same G1 (upd G1 p2 (.tup [.int 1, .int 3])) := Same.new h2
        have f2 : upd G1 p2 (.tup [.int 1, .int 3]) p2 = some (.tup [.int 1, .int 3]) := upd_same
        generalize upd G1 p2 (.tup [.int 1, .int 3]) = G2 at e2 f2 ⊢
        refine ⟨by show 2 ≤ sizeLine; decide, fun p3 h3 => ?_⟩
        have e3 : Same G2 (upd G2 p3 (.tup [.int 2, .int 4])) := Same.new h3
        have f3 : upd G2 p3 (.tup [.int 2, .int 4]) p3 = some (.tup [.int 2, .int 4]) := upd_same
        generalize upd G2 p3 (.tup [.int 2, .int 4]) = G3 at e3 f3 ⊢
        refine ⟨by show 2 ≤ sizeLine; decide, fun p4 h4 => ?_⟩
        have e4 : Same G3 (upd G3 p4 (.tup [.int 3, .int 4])) := Same.new h4
        have f4 : upd G3 p4 (.tup [.int 3, .int 4]) p4 = some (.tup [.int 3, .int 4]) := upd_same
        generalize upd G3 p4 (.tup [.int 3, .int 4]) = G4 at e4 f4 ⊢
        refine ⟨by show 2 ≤ sizeLine; decide, fun p5 h5 => ?_⟩
        have e5 : Same G4 (upd G4 p5 (.tup [.int 999, .int 1000])) := Same.new h5
        have f5 : upd G4 p5 (.tup [.int 999, .int 1000]) p5 = some (.tup [.int 999, .int 1000]) := upd_same
        generalize upd G4 p5 (.tup [.int 999, .int 1000]) = G5 at e5 f5 ⊢
        refine ⟨by show 2 ≤ sizeLine; decide, fun p6 h6 => ?_⟩
        have e6 : Same G5 (upd G5 p6 (.tup [.int 2, .int 5])) := Same.new h6
        have f6 : upd G5 p6 (.tup [.int 2, .int 5]) p6 = some (.tup [.int 2, .int 5]) := upd_same
        generalize upd G5 p6 (.tup [.int 2, .int 5]) = G6 at e6 f6 ⊢
        refine ⟨by show 6 ≤ sizeLine; decide, fun p hp => ?_⟩
        have ee : Same G0 (upd G6 p (.lst [.ref p1, .ref p2, .ref p3, .ref p4, .ref p5, .ref p6])) := e1.trans (e2.trans (e3.trans (e4.trans (e5.trans (e6.trans (Same.new hp))))))
        obtain ⟨u0, hu0⟩ := hs1.lst
        have npa : p ≠ a := fun z => by rw [z, (e1.trans (e2.trans (e3.trans (e4.trans (e5.trans e6))))) _ _ hu0] at hp; cases hp
        refine ⟨a, p, n + 1, _, rfl, hs1.same ee, by omega, upd_same, npa, by show 0 < 6; decide, by show 6 < 1000000; decide, fun u v hv hs2 => ?_⟩
        have sm2 : SameS a H (upd (upd G6 p (.lst [.ref p1, .ref p2, .ref p3, .ref p4, .ref p5, .ref p6])) a (.lst u)) := (sm0.trans (SameS.of ee)).upd
        have g1 : upd (upd G6 p (.lst [.ref p1, .ref p2, .ref p3, .ref p4, .ref p5, .ref p6])) a (.lst u) p1 = some (.tup [.int 1, .int 2]) := by
          have z : G6 p1 = some (.tup [.int 1, .int 2]) := e6 _ _ (e5 _ _ (e4 _ _ (e3 _ _ (e2 _ _ (f1)))))
          rw [upd_ne (fun q => by rw [q] at z; have y := (e1.trans (e2.trans (e3.trans (e4.trans (e5.trans e6))))) _ _ hu0; rw [y] at z; cases z), upd_ne (ne_of_none z hp)]
          exact z
        have g2 : upd (upd G6 p (.lst [.ref p1, .ref p2, .ref p3, .ref p4, .ref p5, .ref p6])) a (.lst u) p2 = some (.tup [.int 1, .int 3]) := by
          have z : G6 p2 = some (.tup [.int 1, .int 3]) := e6 _ _ (e5 _ _ (e4 _ _ (e3 _ _ (f2))))
          rw [upd_ne (fun q => by rw [q] at z; have y := (e1.trans (e2.trans (e3.trans (e4.trans (e5.trans e6))))) _ _ hu0; rw [y] at z; cases z), upd_ne (ne_of_none z hp)]
          exact z
        have g3 : upd (upd G6 p (.lst [.ref p1, .ref p2, .ref p3, .ref p4, .ref p5, .ref p6])) a (.lst u) p3 = some (.tup [.int 2, .int 4]) := by
          have z : G6 p3 = some (.tup [.int 2, .int 4]) := e6 _ _ (e5 _ _ (e4 _ _ (f3)))
          rw [upd_ne (fun q => by rw [q] at z; have y := (e1.trans (e2.trans (e3.trans (e4.trans (e5.trans e6))))) _ _ hu0; rw [y] at z; cases z), upd_ne (ne_of_none z hp)]
          exact z
        have g4 : upd (upd G6 p (.lst [.ref p1, .ref p2, .ref p3, .ref p4, .ref p5, .ref p6])) a (.lst u) p4 = some (.tup [.int 3, .int 4]) := by
          have z : G6 p4 = some (.tup [.int 3, .int 4]) := e6 _ _ (e5 _ _ (f4))
          rw [upd_ne (fun q => by rw [q] at z; have y := (e1.trans (e2.trans (e3.trans (e4.trans (e5.trans e6))))) _ _ hu0; rw [y] at z; cases z), upd_ne (ne_of_none z hp)]
          exact z
        have g5 : upd (upd G6 p (.lst [.ref p1, .ref p2, .ref p3, .ref p4, .ref p5, .ref p6])) a (.lst u) p5 = some (.tup [.int 999, .int 1000]) := by
          have z : G6 p5 = some (.tup [.int 999, .int 1000]) := e6 _ _ (f5)
          rw [upd_ne (fun q => by rw [q] at z; have y := (e1.trans (e2.trans (e3.trans (e4.trans (e5.trans e6))))) _ _ hu0; rw [y] at z; cases z), upd_ne (ne_of_none z hp)]
          exact z
        have g6 : upd (upd G6 p (.lst [.ref p1, .ref p2, .ref p3, .ref p4, .ref p5, .ref p6])) a (.lst u) p6 = some (.tup [.int 2, .int 5]) := by
          have z : G6 p6 = some (.tup [.int 2, .int 5]) := f6
          rw [upd_ne (fun q => by rw [q] at z; have y := (e1.trans (e2.trans (e3.trans (e4.trans (e5.trans e6))))) _ _ hu0; rw [y] at z; cases z), upd_ne (ne_of_none z hp)]
          exact z
        have e : v = .ref p1 ∨ v = .ref p2 ∨ v = .ref p3 ∨ v = .ref p4 ∨ v = .ref p5 ∨ v = .ref p6 := by simpa using hv
        rcases e with rfl | rfl | rfl | rfl | rfl | rfl
        · exact k _ _ (.tup [.int 1, .int 2]) sm2 ⟨p1, _, rfl, g1, _, _, rfl, rfl, _, _, rfl, rfl, rfl⟩ (by simp [qHands]) (hs2.mono (by omega))
        · exact k _ _ (.tup [.int 1, .int 3]) sm2 ⟨p2, _, rfl, g2, _, _, rfl, rfl, _, _, rfl, rfl, rfl⟩ (by simp [qHands]) (hs2.mono (by omega))
        · exact k _ _ (.tup [.int 2, .int 4]) sm2 ⟨p3, _, rfl, g3, _, _, rfl, rfl, _, _, rfl, rfl, rfl⟩ (by simp [qHands]) (hs2.mono (by omega))
        · exact k _ _ (.tup [.int 3, .int 4]) sm2 ⟨p4, _, rfl, g4, _, _, rfl, rfl, _, _, rfl, rfl, rfl⟩ (by simp [qHands]) (hs2.mono (by omega))
        · exact k _ _ (.tup [.int 999, .int 1000]) sm2 ⟨p5, _, rfl, g5, _, _, rfl, rfl, _, _, rfl, rfl, rfl⟩ (by simp [qHands]) (hs2.mono (by omega))
        · exact k _ _ (.tup [.int 2, .int 5]) sm2 ⟨p6, _, rfl, g6, _, _, rfl, rfl, _, _, rfl, rfl, rfl⟩ (by simp [qHands]) (hs2.mono (by omega))
      · exact last G0 (n + 1) sm0 hs1 (by omega)
end
end Q1

set_option Elab.async false
set_option maxRecDepth 100000
set_option maxHeartbeats 4000000
namespace Q1
open PySem L2 LamX
def intV : V → Int
  | .int x => x
  | _ => 0
theorem perm_ints {ys : List V} {L : List Int} (h : ys.Perm (L.map V.int)) : ∃ l : List Int, l.Perm L ∧ ys = l.map V.int := by
  refine ⟨ys.map intV, ?_, ?_⟩
  · have := h.map intV
    rw [List.map_map] at this
    have e : L.map (intV ∘ V.int) = L := by
      rw [show (intV ∘ V.int) = id from rfl, List.map_id]
    rw [e] at this
    exact this
  · rw [List.map_map]
    refine (List.map_id ys).symm.trans (List.map_congr_left fun v hv => ?_)
    obtain ⟨x, _, rfl⟩ := List.mem_map.mp (h.subset hv)
    rfl
theorem sub_of {names : List Str} : ∀ (js : List Int) (k : Nat), js.Pairwise (· < ·) → (∀ j ∈ js, (k : Int) ≤ j ∧ j < (names.length : Int)) → (js.map fun j => names.getD j.toNat "").Sublist (names.drop k)
  | [], k, _, _ => List.nil_sublist _
  | j :: js, k, hp, hb => by
    obtain ⟨h1, h2⟩ := hb j List.mem_cons_self
    rw [List.pairwise_cons] at hp
    have hlt : j.toNat < names.length := by omega
    have e : names.drop j.toNat = names.getD j.toNat "" :: names.drop (j.toNat + 1) := by
      rw [List.drop_eq_getElem_cons hlt, List.getD_eq_getElem?_getD, List.getElem?_eq_getElem hlt]
      rfl
    refine List.Sublist.trans ?_ (List.drop_sublist_drop_left names (show k ≤ j.toNat by omega))
    rw [e, List.map_cons]
    refine List.Sublist.cons_cons _ (sub_of js (j.toNat + 1) hp.2 fun i hi => ?_)
    have := hp.1 i hi
    have := hb i (List.mem_cons_of_mem _ hi)
    omega
theorem Strm.at {H : Hp} {s D : Addr} {n : Nat} {o : HO} (h : Strm H s n) (hD : D ≠ s) : Strm (upd H D o) s n := by
  obtain ⟨c, m, k, h1, h2⟩ := h
  exact ⟨c, m, k, by rw [upd_ne (Ne.symm hD)]; exact h1, h2⟩
theorem ok_int (n : Nat) (i : Int) : (D.int i).ok n := by
  cases n <;> simp only [D.ok]
theorem SameS.seqL {K : PySem.W.Frag} {s l : Addr} {H H' : Hp} {xs : List V} (h : SameS s H H') (n : l ≠ s) (q : SqL K H l xs) : SqL K H' l xs := by
  rcases q with (q | ⟨o, q⟩) | q
  · exact .inl (.inl (h l _ n q))
  · exact .inl (.inr ⟨o, h l _ n q⟩)
  · exact .inr q
def upTo (n : Nat) : List Int := (List.range n).map Int.ofNat
theorem rgV_ints (n : Nat) : rgV 0 (n : Int) = (upTo n).map V.int := by
  unfold rgV upTo
  rw [Int.sub_zero, Int.toNat_natCast, List.map_map]
  exact List.map_congr_left fun i _ => by rw [Int.zero_add]; rfl
theorem strict_of {js : List Int} (h : js.Pairwise (· ≤ ·)) (n : js.Nodup) : js.Pairwise (· < ·) := by
  have := h.and n
  exact this.imp fun ⟨a, b⟩ => by omega
section
variable {P : Program} {w : World} {K : PySem.W.Frag} {mg : Str → Option Value} {base : Heap}
/-! ### _law_q_clause -/
abbrev sQClause : Stmt := top 34
abbrev nQClause : List Str := ["stream", "names", "most", "many", "some", "at"]
theorem scQClause : FnScope nQClause ["stream", "names", "most"] (defScope sQClause) := ⟨rfl, rfl, rfl, by decide +kernel, rfl, by decide +kernel, by decide +kernel⟩
def spQClause : Sp := fun vs H Q _ => ∃ (s l : Addr) (n : Nat) (names : List Str), vs = [.ref s, .ref l, .int 4] ∧ Strm H s n ∧ n + 100 < LIM ∧ H l = some (.lst (names.map V.str)) ∧ l ≠ s ∧ names.length ≤ 16 ∧
  ∀ H' r ts (c : List (Str × Bool)), SameS s H H' → H r = none → H' r = some (.lst ts) → Reps (fun _ => False) H' (c.map litD) ts → (c.map Prod.fst).Sublist names → Strm H' s (n + 100) → Q (.ref r) H'
theorem ok_qclause (B : Bt mg) (N : Dn K mg "_law_q_clause" sQClause ["stream", "names", "most"]) (NP : Dn K mg "_law_pick" sPick ["stream", "some"]) (NM : Dn K mg "_law_mixed" sMixed ["stream", "some"]) (ND : Dn K mg "_law_draw" sDraw ["stream", "many"]) : FnOk P w K mg base CX0 3 N.f N.fd ["stream", "names", "most"] spQClause := by
  have GP : FnOk P w K mg base CX0 2 NP.f NP.fd ["stream", "some"] spPick := ok_pick B NP ND
  have GM : FnOk P w K mg base CX0 2 NM.f NM.fd ["stream", "some"] (spMixed K) := ok_mixed B NM ND
  have GD : FnOk P w K mg base CX0 1 ND.f ND.fd ["stream", "many"] spDraw := ok_draw B ND
  refine N.F.ok scQClause (fun vs H Q E h => ?_) (fun cdv A outer s H vs Q E hr h => ?_)
  · obtain ⟨s, l, n, m, rfl, _⟩ := h
    rfl
  · obtain ⟨a, l, n, names, rfl, hs, hn, hl, nla, hnl, k⟩ := h
    refine ⟨_, pss_cons (ps_set (i := 3) scQClause.nd rfl (Or.inl rfl) (pe_call GP hr (by rfl) NP.g NP.F.kp NP.b .nil pass0 (pa_cons (pv 0) (pa_cons (pe_lst (pa_cons pe_int (pa_cons pe_int (pa_cons pe_int (pa_cons pe_int (pa_cons pe_int (pa_cons pe_int (pa_cons (pv 2) pa_nil)))))))) pa_nil))))
      (pss_cons (ps_set (i := 4) scQClause.nd rfl (Or.inl rfl) (pe_slice sl_list (pe_call GM hr (by rfl) NM.g NM.F.kp NM.b .nil pass0 (pa_cons (pv 0) (pa_cons (pe_listRg rfl (by rfl) B.lst (prg_1 (by rfl) B.range (pe_callB call_len_seq (by rfl) B.len boot_len (pa_cons (pv 1) pa_nil)))) pa_nil))) po_none (po_some (pv 3))))
      (pss_one (ps_ret (pe_lc (own := [("at", 5)]) (g := gName 5) (tt := tYes) (te := tTup (tCons (tOp (rIxL K) (tVar 1) (tVar 5)) (tCons (tOp rEq (tCall spDraw [] E0 (tCons (tVar 0) (tCons (tC (.int 2)) tNil))) (tC (.int 0))) tNil))) rfl scQClause.nd (pi_list (pe_callB cr_sorted (by rfl) B.sorted (by decide +kernel) (pa_cons (pv 4) pa_nil))) (blkOk_by (own := [("at", 5)]) (N := nQClause) (sc := defScope sQClause) (by decide +kernel)) (fun _ _ _ _ _ => pg_name (i := 5) scQClause.nd rfl (Or.inl rfl)) (fun _ _ _ _ _ => pts_nil)
        (fun _ _ _ _ _ => pe_tup (pa_cons (pe_ix ix_list (pv 1) (pv 5) (fun _ _ => rfl)) (pa_cons (pe_cmpR op_eq (pe_call GD (hr.mono (by decide)) (by rfl) ND.g ND.F.kp ND.b .nil pass0 (pa_cons (pv 0) (pa_cons pe_int pa_nil))) pe_int (nomark _)) pa_nil))))))), ?_⟩
    refine ⟨_, rfl, _, rfl, by show 7 ≤ sizeLine; decide, fun p hp => ?_⟩
    obtain ⟨u0, hu0⟩ := hs.lst
    have npa : p ≠ a := fun z => by rw [z, hu0] at hp; cases hp
    refine ⟨a, p, n, _, rfl, hs.same (Same.new hp), by omega, upd_same, npa, by show 0 < 7; decide, by show 7 < 1000000; decide, fun u v hv hs1 => ?_⟩
    have sm1 : SameS a H (upd (upd H p (.lst [V.int 1, .int 2, .int 2, .int 2, .int 3, .int 3, .int 4])) a (.lst u)) := ((SameS.refl H).new hp).upd
    obtain ⟨m, rfl, hm4⟩ : ∃ m : Nat, v = .int (m : Nat) ∧ m ≤ 4 := by
      have e : v = .int 1 ∨ v = .int 2 ∨ v = .int 3 ∨ v = .int 4 := by
        simp only [List.mem_cons, List.not_mem_nil, or_false] at hv
        rcases hv with h | h | h | h | h | h | h <;> simp [h]
      rcases e with rfl | rfl | rfl | rfl
      · exact ⟨1, rfl, by decide⟩
      · exact ⟨2, rfl, by decide⟩
      · exact ⟨3, rfl, by decide⟩
      · exact ⟨4, rfl, by decide⟩
    generalize upd (upd H p (.lst [V.int 1, .int 2, .int 2, .int 2, .int 3, .int 3, .int 4])) a (.lst u) = G1 at sm1 hs1 ⊢
    have hl1 := sm1 l _ nla hl
    refine ⟨_, rfl, _, rfl, l, _, rfl, .inl (SqL.of hl1), _, rfl, ?_, fun q hq => ?_⟩
    · rw [List.length_map]
      exact RgOk.of_le (by omega) (by omega) (by omega) (by omega)
    rw [List.length_map, rgV_ints]
    have hLl : (upTo names.length).length = names.length := by unfold upTo; rw [List.length_map, List.length_range]
    have hLm : ∀ j ∈ upTo names.length, 0 ≤ j ∧ j < (names.length : Int) := fun j hj => by
      unfold upTo at hj
      obtain ⟨i, hi, rfl⟩ := List.mem_map.mp hj
      have := List.mem_range.mp hi
      exact ⟨Int.natCast_nonneg i, Int.ofNat_lt.mpr this⟩
    have hLn : (upTo names.length).Nodup := by
      unfold upTo
      refine List.Pairwise.map _ (fun a b (h : a ≠ b) => ?_) List.nodup_range
      exact fun z => h (Int.ofNat.inj z)
    generalize upTo names.length = L at hLl hLm hLn ⊢
    have smq := sm1.new hq (o := .lst (L.map V.int))
    refine ⟨fun _ => False, a, q, n + 1, L.map V.int, L.map D.int, rfl, hs1.same (Same.new hq), by rw [List.length_map]; omega, .inl (SqL.of upd_same), reps_map fun _ _ => rfl, fun z => z, oks_mem fun d hd => ?_, by rw [List.length_map]; omega, fun H2 rr ys sm2 perm hr0 hr1 hs2 => ?_⟩
    · obtain ⟨x, _, rfl⟩ := List.mem_map.mp hd
      exact ok_int 8 x
    obtain ⟨l2, lp, rfl⟩ := perm_ints perm
    have smr := smq.trans sm2
    refine ⟨_, rfl, _, rfl, rr, _, rfl, SqL.of hr1, fun q2 hq2 => ?_⟩
    rw [cutV_take, ← List.map_take]
    have sms := smr.new hq2 (o := .lst ((l2.take m).map V.int))
    have hs3 : Strm (upd H2 q2 (.lst ((l2.take m).map V.int))) a (n + 1 + (L.map V.int).length) := hs2.same (Same.new hq2)
    refine ⟨_, rfl, q2, l2.take m, rfl, SqL.of upd_same, by rw [List.length_take]; omega, fun ns p2 perm2 rising hp2 => ?_⟩
    have smt := sms.new hp2 (o := .lst (ns.map V.int))
    have hs4 := hs3.same (Same.new hp2 (o := .lst (ns.map V.int)))
    have hpl : upd (upd H2 q2 (.lst ((l2.take m).map V.int))) p2 (.lst (ns.map V.int)) p2 = some (.lst (ns.map V.int)) := upd_same
    generalize upd (upd H2 q2 (.lst ((l2.take m).map V.int))) p2 (.lst (ns.map V.int)) = G2 at smt hs4 hpl ⊢
    have hnsn : ns.Nodup := perm2.symm.nodup (List.Sublist.nodup (List.take_sublist _ _) (lp.symm.nodup hLn))
    have hnsm : ∀ j ∈ ns, 0 ≤ j ∧ j < (names.length : Int) := fun j hj => hLm j (lp.subset (List.mem_of_mem_take (perm2.subset hj)))
    have hnsl : ns.length ≤ 4 := by rw [perm2.length_eq, List.length_take]; omega
    have hsub := sub_of (names := names) ns 0 (strict_of rising hnsn) (fun j hj => by have := hnsm j hj; omega)
    rw [List.drop_zero] at hsub
    rw [List.length_map] at hs4
    obtain ⟨u2, hu2⟩ := hs4.lst
    obtain ⟨u3, hu3⟩ := hs3.lst
    have np2a : p2 ≠ a := fun z => by rw [z, hu3] at hp2; cases hp2
    refine ⟨p2, rfl, ⟨_, SqL.of hpl⟩, fun D0 hD => ?_⟩
    refine lc_list (K := K) (a := p2) (xs := ns.map V.int) (fun i H' => SameS a G2 H' ∧ ∃ (ts : List V) (c : List (Str × Bool)), H' D0 = some (.lst ts) ∧ Reps (fun _ => False) H' (c.map litD) ts ∧ c.map Prod.fst = (ns.take i).map (fun j => names.getD j.toNat "") ∧ Strm H' a (n + 1 + L.length + i))
      ⟨(SameS.refl G2).new hD, [], [], upd_same, rfl, rfl, ?_⟩ (fun i H' _ h => SqL.of (h.1 _ _ np2a hpl)) ?_ ?_
    · exact hs4.same (Same.new hD)
    · rintro i x H' hx ⟨sm', ts, c, hts, hr, hc, hs'⟩
      rw [List.getElem?_map] at hx
      cases hj : ns[i]? with
      | none => rw [hj] at hx; cases hx
      | some j =>
        rw [hj] at hx
        cases hx
        have hjm := hnsm j (List.mem_of_getElem? hj)
        have hjl : j.toNat < names.length := by omega
        have hlt : i < ns.length := (List.getElem?_eq_some_iff.mp hj).1
        have hlH : H' l = some (.lst (names.map V.str)) := sm' l _ nla (smt l _ nla hl)
        have hat : atI (names.map V.str) j = some (.str (names.getD j.toNat "")) := by
          have z : (names.map V.str)[j.toNat]? = some (.str (names.getD j.toNat "")) := by
            rw [List.getElem?_map, List.getD_eq_getElem?_getD, List.getElem?_eq_getElem hjl]
            rfl
          have := atI_nat z
          rwa [Int.toNat_of_nonneg hjm.1] at this
        have nDa : D0 ≠ a := fun z => by rw [z, hu2] at hD; cases hD
        refine ⟨rfl, ?_⟩
        refine ⟨_, rfl, _, rfl, l, _, j, _, rfl, rfl, SqL.of hlH, hat, _, rfl, a, n + 1 + L.length + i, 2, rfl, hs', by omega, by decide, by decide, fun u d hd hs5 => ⟨rfl, by show 2 ≤ sizeLine; decide, fun t ht => ?_⟩⟩
        have sm5 : SameS a H' (upd (upd H' a (.lst u)) t (.tup [.str (names.getD j.toNat ""), .bl (decide (V.int d = V.int 0))])) := (SameS.refl H').upd.new ht
        have hs6 := hs5.same (Same.new ht (o := .tup [.str (names.getD j.toNat ""), .bl (decide (V.int d = V.int 0))]))
        have htt : upd (upd H' a (.lst u)) t (.tup [.str (names.getD j.toNat ""), .bl (decide (V.int d = V.int 0))]) t = some (.tup [.str (names.getD j.toNat ""), .bl (decide (V.int d = V.int 0))]) := upd_same
        generalize upd (upd H' a (.lst u)) t (.tup [.str (names.getD j.toNat ""), .bl (decide (V.int d = V.int 0))]) = H5 at sm5 hs6 htt ⊢
        have hts5 : H5 D0 = some (.lst ts) := sm5 D0 _ nDa hts
        have hlen := hr.length
        rw [List.length_map] at hlen
        have hcl := congrArg List.length hc
        rw [List.length_map, List.length_map, List.length_take] at hcl
        obtain ⟨u5, hu5⟩ := hs'.lst
        have st : ∀ o, Stay (fun _ => False) H5 (upd H5 D0 o) := fun o => stay_upd hts5 (nd_lst fun z => z)
        refine ⟨ts, hts5, Nat.lt_of_lt_of_le (show ts.length < 1000 by omega) (by decide), (sm'.trans sm5).at hD, ts ++ [.ref t], c ++ [(names.getD j.toNat "", decide (V.int d = V.int 0))], upd_same, ?_, ?_, ?_⟩
        · rw [List.map_append]
          refine Reps.append (Reps.mono (fun _ z => z) ((sm5.stay hu5 (fun z => z)).trans (st _)) hr) (Reps.one ?_)
          exact ⟨t, _, rfl, st _ _ _ htt (.inr (.inl ⟨_, rfl⟩)), _, _, rfl, rfl, _, _, rfl, rfl, rfl⟩
        · rw [List.map_append, hc, List.take_add_one, hj, List.map_append]
          rfl
        · exact (hs6.mono (by omega)).at nDa
    · rintro H' ⟨sm', ts, c, hts, hr, hc, hs'⟩
      rw [List.length_map, List.take_length] at hc
      refine k H' D0 ts c (smt.trans sm') ?_ hts hr (by rw [hc]; exact hsub) (hs'.mono (by rw [List.length_map]; omega))
      exact smt.none (fun z => by rw [z, hu2] at hD; cases hD) hD
end
end Q1

set_option Elab.async false
set_option maxRecDepth 100000
set_option maxHeartbeats 4000000
namespace Q1
open PySem L2 LamX
theorem perm_map_inv {α β : Type} {f : α → β} {l m : List β} (h : l.Perm m) : ∀ {L : List α}, m = L.map f → ∃ l' : List α, l'.Perm L ∧ l = l'.map f := by
  induction h with
  | nil => intro L e; cases L with
    | nil => exact ⟨[], .nil, rfl⟩
    | cons _ _ => cases e
  | cons x p ih =>
    intro L e
    cases L with
    | nil => cases e
    | cons a L =>
      rw [List.map_cons] at e
      injection e with e1 e2
      obtain ⟨l', h1, h2⟩ := ih e2
      exact ⟨a :: l', h1.cons a, by rw [List.map_cons, h2, e1]⟩
  | swap x y l =>
    intro L e
    match L, e with
    | a :: b :: L, e =>
      rw [List.map_cons, List.map_cons] at e
      injection e with e1 e2
      injection e2 with e2 e3
      exact ⟨b :: a :: L, .swap a b L, by rw [List.map_cons, List.map_cons, e1, e2, e3]⟩
    | [_], e => cases e
    | [], e => cases e
  | trans p q ih1 ih2 =>
    intro L e
    obtain ⟨l1, h1, h2⟩ := ih2 e
    obtain ⟨l2, h3, h4⟩ := ih1 h2
    exact ⟨l2, h3.trans h1, h4⟩
theorem reps_perm {S : Addr → Prop} {H : Hp} {ys vs : List V} (h : ys.Perm vs) : ∀ {ds : List D}, Reps S H ds vs → ∃ es : List D, es.Perm ds ∧ Reps S H es ys := by
  induction h with
  | nil => intro ds r; exact ⟨ds, .refl _, r⟩
  | cons x p ih =>
    intro ds r
    cases ds with
    | nil => cases r
    | cons d ds =>
      obtain ⟨v, rs, e, h1, h2⟩ := r
      cases e
      obtain ⟨es, h3, h4⟩ := ih h2
      exact ⟨d :: es, h3.cons d, _, _, rfl, h1, h4⟩
  | swap x y l =>
    intro ds r
    match ds, r with
    | d :: e :: ds, r =>
      obtain ⟨v, rs, e1, h1, v2, rs2, e2, h2, h3⟩ := r
      cases e1
      cases e2
      exact ⟨e :: d :: ds, .swap d e ds, _, _, rfl, h2, _, _, rfl, h1, h3⟩
    | [_], r =>
      obtain ⟨v, rs, e1, h1, h2⟩ := r
      cases e1
      cases h2
    | [], r => cases r
  | trans p q ih1 ih2 =>
    intro ds r
    obtain ⟨es, h1, h2⟩ := ih2 r
    obtain ⟨fs, h3, h4⟩ := ih1 h2
    exact ⟨fs, h3.trans h1, h4⟩
/-- clauses that stand at vs, and lie in the order of the names -/
def InOrd (names : List Str) (cs : List (List (Str × Bool))) : Prop := ∀ c ∈ cs, (c.map Prod.fst).Sublist names
theorem lits_ok {c : List (Str × Bool)} (h : ∀ l ∈ c, PyData.strOk l.1 = true) : (litsD c).ok 2 := by
  show oks 1 (c.map litD)
  refine oks_mem fun d hd => ?_
  obtain ⟨l, hl, rfl⟩ := List.mem_map.mp hd
  exact ⟨ok_str (h l hl), trivial, trivial⟩
mutual
theorem D.ok_mono : ∀ {n : Nat} {d : D}, d.ok n → d.ok (n + 1)
  | _, .non, _ => by simp only [D.ok]
  | _, .bl _, _ => by simp only [D.ok]
  | _, .int _, _ => by simp only [D.ok]
  | _, .str _, k => ok_str (strOk_of k)
  | _, .dic, k => by simp only [D.ok] at k
  | 0, .lst _, k => k.elim
  | 0, .tup _, k => k.elim
  | n + 1, .lst xs, k => oks_mono (n := n) (ds := xs) k
  | n + 1, .tup xs, k => oks_mono (n := n) (ds := xs) k
theorem oks_mono : ∀ {n : Nat} {ds : List D}, oks n ds → oks (n + 1) ds
  | _, [], _ => trivial
  | _, _ :: _, k => ⟨D.ok_mono k.1, oks_mono k.2⟩
end
theorem D.ok_le {d : D} {n m : Nat} (h : d.ok n) (hm : n ≤ m) : d.ok m := by
  induction hm with
  | refl => exact h
  | step _ ih => exact D.ok_mono ih
theorem inOrd_ok {names : List Str} (hn : ∀ x ∈ names, x ∈ qNames) {c : List (Str × Bool)} (h : (c.map Prod.fst).Sublist names) : (litsD c).ok 7 :=
  D.ok_le (lits_ok fun l hl => qNames_ok _ (hn _ (h.subset (List.mem_map_of_mem hl)))) (by decide)
end Q1

set_option Elab.async false
set_option maxRecDepth 100000
set_option maxHeartbeats 4000000
namespace Q1
open PySem L2 LamX
/-- clauses that are being drawn: their list at f -/
structure Fnd (H : Hp) (a f : Addr) (names : List Str) (H1 : Hp) (vs : List V) (cs : List (List (Str × Bool))) (n : Nat) : Prop where
  sm : SameS a H H1
  nf : H f = none
  at_ : H1 f = some (.lst vs)
  rp : Reps (fun b => H b = none ∧ b ≠ f) H1 (cs.map litsD) vs
  io : InOrd names cs
  st : Strm H1 a n
section
variable {H H1 H2 : Hp} {a f : Addr} {names : List Str} {vs : List V} {cs : List (List (Str × Bool))} {n m : Nat}
theorem Fnd.ne (x : Fnd H a f names H1 vs cs n) {u : List V} (hu : H a = some (.lst u)) : f ≠ a := fun z => by
  have := x.nf
  rw [z, hu] at this
  cases this
theorem Fnd.step {u : List V} (x : Fnd H a f names H1 vs cs n) (hu : H a = some (.lst u)) (s : SameS a H1 H2) (t : Strm H2 a m) : Fnd H a f names H2 vs cs m := by
  obtain ⟨u1, hu1⟩ := x.st.lst
  exact ⟨x.sm.trans s, x.nf, s f _ (x.ne hu) x.at_, Reps.mono (fun _ z => z) (s.stay hu1 (fun z => by rw [hu] at z; cases z.1)) x.rp, x.io, t⟩
theorem Fnd.push {u : List V} {c : List (Str × Bool)} {v : V} (x : Fnd H a f names H1 vs cs n) (hu : H a = some (.lst u)) (r : Rep (fun b => H b = none ∧ b ≠ f) H1 (litsD c) v) (hc : (c.map Prod.fst).Sublist names) : Fnd H a f names (upd H1 f (.lst (vs ++ [v]))) (vs ++ [v]) (cs ++ [c]) n := by
  have st : Stay (fun b => H b = none ∧ b ≠ f) H1 (upd H1 f (.lst (vs ++ [v]))) := stay_upd x.at_ (nd_lst fun z => z.2 rfl)
  refine ⟨x.sm.at x.nf, x.nf, upd_same, ?_, fun c0 h0 => ?_, x.st.at (x.ne hu)⟩
  · rw [List.map_append]
    exact Reps.append (Reps.mono (fun _ z => z) st x.rp) (Reps.one (Rep.mono (fun _ z => z) st r))
  · rcases List.mem_append.mp h0 with h0 | h0
    · exact x.io c0 h0
    · rw [show c0 = c by simpa using h0]
      exact hc
theorem Fnd.mono (x : Fnd H a f names H1 vs cs n) (h : n ≤ m) : Fnd H a f names H1 vs cs m := ⟨x.sm, x.nf, x.at_, x.rp, x.io, x.st.mono h⟩
theorem Fnd.len (x : Fnd H a f names H1 vs cs n) : vs.length = cs.length := by rw [x.rp.length, List.length_map]
theorem Fnd.oks (x : Fnd H a f names H1 vs cs n) (hn : ∀ y ∈ names, y ∈ qNames) : oks 8 (cs.map litsD) := oks_mem fun d hd => by
  obtain ⟨c, hc, rfl⟩ := List.mem_map.mp hd
  exact D.ok_mono (inOrd_ok hn (x.io c hc))
/-- a clause that has just been drawn -/
theorem Fnd.fresh {ts : List V} {r : Addr} {c : List (Str × Bool)} (x : Fnd H a f names H1 vs cs n) (nr : H1 r = none) (hr : H2 r = some (.lst ts)) (rp : Reps (fun _ => False) H2 (c.map litD) ts) : Rep (fun b => H b = none ∧ b ≠ f) H2 (litsD c) (.ref r) := by
  obtain ⟨u1, hu1⟩ := x.st.lst
  refine ⟨r, ts, rfl, ⟨x.sm.none (fun z => by rw [z, hu1] at nr; cases nr) nr, fun z => by rw [z, x.at_] at nr; cases nr⟩, hr, Reps.mono (fun _ z => z.elim) (fun _ _ e _ => e) rp⟩
end
section
variable {P : Program} {w : World} {K : PySem.W.Frag} {mg : Str → Option Value} {base : Heap}
theorem tSeq_two {t1 t2 : TS} {D : Ends} {σ : L2.St} {H : Hp} (R : L2.St → Hp → Prop) (h : ∀ D' : Ends, (∀ σ H, R σ H → D'.nx σ H) → t1 D' σ H) (k : ∀ σ H, R σ H → t2 D σ H) : tSeq t1 t2 D σ H := h { D with nx := t2 D } k
/-! ### _law_q_clauses -/
abbrev sQClauses : Stmt := top 35
abbrev nQClauses : List Str := ["stream", "names", "many", "most", "found", "k"]
theorem scQClauses : FnScope nQClauses ["stream", "names", "many", "most"] (defScope sQClauses) := ⟨rfl, rfl, rfl, by decide +kernel, rfl, by decide +kernel, by decide +kernel⟩
def spQClauses : Sp := fun vs H Q _ => ∃ (s l : Addr) (n m : Nat) (names : List Str), vs = [.ref s, .ref l, .int (m : Nat), .int 4] ∧ Strm H s n ∧ n + 10000 < LIM ∧ m ≤ 20 ∧ H l = some (.lst (names.map V.str)) ∧ l ≠ s ∧ names.length ≤ 16 ∧ (∀ y ∈ names, y ∈ qNames) ∧
  ∀ H' r cs, SameS s H H' → Rep (fun b => H b = none) H' (clausesD cs) r → InOrd names cs → cs.length ≤ 22 → Strm H' s (n + 10000) → Q r H'
theorem ok_qclauses (B : Bt mg) (N : Dn K mg "_law_q_clauses" sQClauses ["stream", "names", "many", "most"]) (NC : Dn K mg "_law_q_clause" sQClause ["stream", "names", "most"]) (NP : Dn K mg "_law_pick" sPick ["stream", "some"]) (NM : Dn K mg "_law_mixed" sMixed ["stream", "some"]) (ND : Dn K mg "_law_draw" sDraw ["stream", "many"]) :
    FnOk P w K mg base CX0 4 N.f N.fd ["stream", "names", "many", "most"] spQClauses := by
  have GC : FnOk P w K mg base CX0 3 NC.f NC.fd ["stream", "names", "most"] spQClause := ok_qclause B NC NP NM ND
  have GP : FnOk P w K mg base CX0 2 NP.f NP.fd ["stream", "some"] spPick := ok_pick B NP ND
  have GM : FnOk P w K mg base CX0 2 NM.f NM.fd ["stream", "some"] (spMixed K) := ok_mixed B NM ND
  have GD : FnOk P w K mg base CX0 1 ND.f ND.fd ["stream", "many"] spDraw := ok_draw B ND
  refine N.F.ok scQClauses (fun vs H Q E h => ?_) (fun cdv A outer s H vs Q E hr h => ?_)
  · obtain ⟨s, l, n, m, names, rfl, _⟩ := h
    rfl
  · obtain ⟨a, l, n, m, names, rfl, hs, hn, hm, hl, nla, hnl, hq, k⟩ := h
    refine ⟨_, pss_cons (ps_setLc (i := 4) (own := [("k", 5)]) (g := gName 5) (tt := tYes) (te := tCall spQClause [] E0 (tCons (tVar 0) (tCons (tVar 1) (tCons (tVar 3) tNil)))) (by rfl) scQClauses.nd rfl rfl (sw_true rfl rfl rfl (by decide +kernel)) (pi_range1 (by rfl) B.range (pa_cons (pv 2) pa_nil)) (blkOk_by (own := [("k", 5)]) (N := nQClauses) (sc := defScope sQClauses) (by decide +kernel)) (fun _ _ _ _ _ => pg_name (i := 5) scQClauses.nd rfl (Or.inl rfl)) (fun _ _ _ _ _ => pts_nil)
        (fun _ _ _ _ _ => pe_call GC (hr.mono (by decide)) (by rfl) NC.g NC.F.kp NC.b .nil pass0 (pa_cons (pv 0) (pa_cons (pv 1) (pa_cons (pv 3) pa_nil)))))
      (pss_cons (ps_if (PW.pt (pw_and (pt_cmpR (op_neD hr.units) (pv 4) (pe_lst pa_nil) (nomark _)) (pw_and1 (pt_cmpR op_eq (pe_call GD (hr.mono (by decide)) (by rfl) ND.g ND.F.kp ND.b .nil pass0 (pa_cons (pv 0) (pa_cons pe_int pa_nil))) pe_int (nomark _)))))
        (pss_one (ps_expr (pe_bm PySem.F.plainAttrs_list PySem.F.slot_list_append PySem.F.type_list_append mt_append (pv 4)
          (pa_cons (pe_callTy call_listOf (by rfl) B.lst PyProof.Rows.boot_list (pa_cons (pe_call GP (hr.mono (by decide)) (by rfl) NP.g NP.F.kp NP.b .nil pass0 (pa_cons (pv 0) (pa_cons (pv 4) pa_nil))) pa_nil)) pa_nil)))) pss_nil)
      (pss_cons (ps_if (pt_cmpR op_eq (pe_call GD (hr.mono (by decide)) (by rfl) ND.g ND.F.kp ND.b .nil pass0 (pa_cons (pv 0) (pa_cons pe_int pa_nil))) pe_int (nomark _))
        (pss_one (ps_expr (pe_bm PySem.F.plainAttrs_list PySem.F.slot_list_append PySem.F.type_list_append mt_append (pv 4) (pa_cons (pe_lst pa_nil) pa_nil)))) pss_nil)
      (pss_one (ps_ret (pe_call GM (hr.mono (by decide)) (by rfl) NM.g NM.F.kp NM.b .nil pass0 (pa_cons (pv 0) (pa_cons (pv 4) pa_nil))))))), ?_⟩
    obtain ⟨u0, hu0⟩ := hs.lst
    refine ⟨_, rfl, (m : Int), rfl, by omega, by omega, fun f hf => ?_⟩
    refine lc_range (lo := 0) (n := (m : Int).toNat) (fun i H1 => ∃ vs cs, Fnd H a f names H1 vs cs (n + 100 * i) ∧ cs.length = i) ?_ ?_ ?_
    · exact ⟨[], [], ⟨(SameS.refl H).at hf, hf, upd_same, rfl, fun c hc => by simp at hc, hs.same (Same.new hf)⟩, rfl⟩
    · rintro i H1 hi ⟨vs, cs, x, hcl⟩
      rw [Int.toNat_natCast] at hi
      refine ⟨rfl, ?_⟩
      refine ⟨_, rfl, _, rfl, _, rfl, a, l, n + 100 * i, names, rfl, x.st, by omega, x.sm l _ nla hl, nla, hnl, fun H2 r ts c sm nr hr rp hsub hs2 => ?_⟩
      have y := x.step hu0 sm hs2
      have hvl := x.len
      exact ⟨vs, y.at_, Nat.lt_of_lt_of_le (show vs.length < 1000 by omega) (by decide), _, _, (y.push hu0 (x.fresh nr hr rp) hsub).mono (by omega), by rw [List.length_append, hcl]; rfl⟩
    · rintro H1 ⟨vs, cs, x, hcl⟩
      rw [Int.toNat_natCast] at hcl x
      refine tSeq_two (R := fun σ H2 => (∃ o5, σ = [some (.ref a), some (.ref l), some (.int (m : Nat)), some (.int 4), some (.ref f), o5]) ∧ H1 = H2) (fun D' hD => hD _ _ ⟨⟨_, rfl⟩, rfl⟩) ?_
      rintro σ H2 ⟨⟨o5, rfl⟩, e2⟩
      subst e2
      refine tSeq_two (R := fun σ H2 => (∃ o5, σ = [some (.ref a), some (.ref l), some (.int (m : Nat)), some (.int 4), some (.ref f), o5]) ∧ ∃ vs cs n1, Fnd H a f names H2 vs cs n1 ∧ cs.length ≤ m + 1 ∧ n1 ≤ n + 3000) (fun D' hD => ?_) ?_
      · have nfa := x.ne hu0
        refine ⟨_, rfl, Nat.zero_le _, fun p hp => ?_⟩
        have x2 := x.step hu0 ((SameS.refl H1).new hp (o := .lst [])) (x.st.same (Same.new hp (o := .lst [])))
        have hp2 : upd H1 p (.lst []) p = some (.lst []) := upd_same
        generalize upd H1 p (.lst []) = H2 at x2 hp2 ⊢
        refine ⟨(D.lst (cs.map litsD)).py, (D.lst []).py, .lst (SqL.of x2.at_) (x2.rp.dp (x2.oks hq)), .lst (SqL.of hp2) .nil, D.ok_shaped (n := 9) (d := D.lst (cs.map litsD)) (x2.oks hq) (by decide), D.ok_shaped (n := 1) (d := D.lst []) trivial (by decide), ⟨_, rfl, ?_⟩⟩
        have hvl := x2.len
        cases hcs : cs with
        | nil =>
          rw [hcs] at x2
          exact iteF (hD _ _ ⟨⟨_, rfl⟩, vs, [], _, x2, Nat.zero_le _, by omega⟩)
        | cons c0 cs0 =>
          refine iteT ?_
          have hv0 : 0 < vs.length := by rw [hvl, hcs]; exact Nat.succ_pos _
          refine ⟨_, rfl, a, n + 100 * m, 9, rfl, x2.st, by omega, by decide, by decide, fun u d hd hs3 => ⟨rfl, _, rfl, ite2 (fun h => ?_) (fun h => ?_)⟩⟩
          · have x3 := x2.step hu0 (SameS.refl H2).upd hs3
            generalize upd H2 a (.lst u) = H3 at x3 ⊢
            refine ⟨_, rfl, .inl ⟨rfl, _, SqL.of x3.at_⟩, _, rfl, _, rfl, a, f, _, vs, rfl, x3.st, by omega, x3.at_, nfa, hv0, by omega, fun u2 v hv hs4 => ?_⟩
            have x4 := x3.step hu0 (SameS.refl H3).upd hs4
            generalize upd H3 a (.lst u2) = H4 at x4 ⊢
            obtain ⟨d0, hd0, hrd⟩ := x4.rp.mem hv
            obtain ⟨c, hc, rfl⟩ := List.mem_map.mp hd0
            obtain ⟨b, ts, rfl, sb, hb, rt⟩ := hrd
            refine ⟨b, ts, rfl, .inl (SqL.of hb), fun r hr => ?_⟩
            have x5 := x4.step hu0 ((SameS.refl H4).new hr (o := .lst ts)) (x4.st.same (Same.new hr (o := .lst ts)))
            refine ⟨f, vs, .ref r, rfl, rfl, x5.at_, Nat.lt_of_lt_of_le (show vs.length < 1000 by omega) (by decide), hD _ _ ⟨⟨_, rfl⟩, _, _, _, x5.push hu0 (x4.fresh (c := c) hr upd_same (Reps.mono (fun _ z => z) (stay_of (Same.new hr)) (rt.free (litsD_free c)))) (x4.io c hc), by rw [List.length_append, hcl]; exact Nat.le_refl _, by omega⟩⟩
          · exact hD _ _ ⟨⟨_, rfl⟩, _, _, _, x2.step hu0 (SameS.refl H2).upd hs3, by omega, by omega⟩
      · rintro σ H2 ⟨⟨o5, rfl⟩, vs, cs, n1, x, hcl, hn1⟩
        have nfa := x.ne hu0
        have hvl := x.len
        refine tSeq_two (R := fun σ H2 => (∃ o5, σ = [some (.ref a), some (.ref l), some (.int (m : Nat)), some (.int 4), some (.ref f), o5]) ∧ ∃ vs cs n1, Fnd H a f names H2 vs cs n1 ∧ cs.length ≤ m + 2 ∧ n1 ≤ n + 3100) (fun D' hD => ?_) ?_
        · refine ⟨_, rfl, a, n1, 25, rfl, x.st, by omega, by decide, by decide, fun u d hd hs3 => ⟨rfl, _, rfl, ite2 (fun h => ?_) (fun h => ?_)⟩⟩
          · have x3 := x.step hu0 (SameS.refl H2).upd hs3
            generalize upd H2 a (.lst u) = H3 at x3 ⊢
            refine ⟨_, rfl, .inl ⟨rfl, _, SqL.of x3.at_⟩, Nat.zero_le _, fun r hr => ?_⟩
            have x5 := x3.step hu0 ((SameS.refl H3).new hr (o := .lst [])) (x3.st.same (Same.new hr (o := .lst [])))
            refine ⟨f, vs, .ref r, rfl, rfl, x5.at_, Nat.lt_of_lt_of_le (show vs.length < 1000 by omega) (by decide), hD _ _ ⟨⟨_, rfl⟩, _, _, _, x5.push hu0 (x3.fresh (c := []) hr upd_same rfl) (List.nil_sublist _), by rw [List.length_append]; exact Nat.succ_le_succ hcl, by omega⟩⟩
          · exact hD _ _ ⟨⟨_, rfl⟩, _, _, _, x.step hu0 (SameS.refl H2).upd hs3, by omega, by omega⟩
        · rintro σ H3 ⟨⟨o6, rfl⟩, vs, cs, n1, x, hcl, hn1⟩
          have hvl := x.len
          refine ⟨_, rfl, _, rfl, fun b => H b = none ∧ b ≠ f, a, f, n1, vs, cs.map litsD, rfl, x.st, by omega, .inl (SqL.of x.at_), x.rp, (fun z => by
            have z1 : H a = none := z.1
            rw [hu0] at z1
            cases z1), x.oks hq, by omega, fun H' r ys sm perm hr0 hr1 hs' => ?_⟩
          obtain ⟨u3, hu3⟩ := x.st.lst
          obtain ⟨es, he, hr2⟩ := reps_perm perm (Reps.mono (fun _ z => z) (sm.stay hu3 (fun z => by
            have z1 : H a = none := z.1
            rw [hu0] at z1
            cases z1)) x.rp)
          obtain ⟨cs', hc', rfl⟩ := perm_map_inv he rfl
          refine k H' _ cs' (x.sm.trans sm) ⟨r, ys, rfl, x.sm.none (fun z => by rw [z, hu3] at hr0; cases hr0) hr0, hr1, Reps.mono (fun _ z => z.1) (fun _ _ e _ => e) hr2⟩ (fun c hc => x.io c (hc'.subset hc)) (by rw [hc'.length_eq]; omega) (hs'.mono (by omega))
end
end Q1

set_option Elab.async false
set_option maxRecDepth 100000
set_option maxHeartbeats 4000000
namespace Q1
open PySem L2 LamX
/-- a drawn question, as the law holds it -/
def qD (ps : List (Str × D)) (cw cg : List (List (Str × Bool))) : D := .tup [.lst (ps.map pairD), clausesD cw, clausesD cg]
structure GoodQ (ps : List (Str × D)) (cw cg : List (List (Str × Bool))) : Prop where
  nd : (ps.map Prod.fst).Nodup
  nm : ∀ x ∈ ps.map Prod.fst, x ∈ qNames
  hd : ∀ p ∈ ps, p.2 ∈ qHands
  w : InOrd (ps.map Prod.fst) cw
  g : InOrd (ps.map Prod.fst) cg
  lw : cw.length ≤ 22
  lg : cg.length ≤ 22
  pl : ps.length ≤ 13
theorem sameS_back {a b : Addr} {H H' : Hp} {n : Nat} (s : SameS a H H') (t : Strm H' a n) (e : H' b = none) : H b = none := by
  obtain ⟨u, hu⟩ := t.lst
  exact s.none (fun z => by rw [z, hu] at e; cases e) e
theorem sameS_rep {a : Addr} {S : Addr → Prop} {H H' : Hp} {n : Nat} {d : D} {v : V} (s : SameS a H H') (t : Strm H a n) (hS : ¬ S a) (r : Rep S H d v) : Rep S H' d v := by
  obtain ⟨u, hu⟩ := t.lst
  exact Rep.mono (fun _ z => z) (s.stay hu hS) r
theorem sameS_reps {a : Addr} {S : Addr → Prop} {H H' : Hp} {n : Nat} {d : List D} {v : List V} (s : SameS a H H') (t : Strm H a n) (hS : ¬ S a) (r : Reps S H d v) : Reps S H' d v := by
  obtain ⟨u, hu⟩ := t.lst
  exact Reps.mono (fun _ z => z) (s.stay hu hS) r
section
variable {P : Program} {w : World} {K : PySem.W.Frag} {mg : Str → Option Value} {base : Heap}
/-! ### _law_q_drawn -/
abbrev sQDrawn : Stmt := top 36
abbrev nQDrawn : List Str := ["stream", "many", "is_chance", "names", "marks", "name", "wishes", "way"]
theorem scQDrawn : FnScope nQDrawn ["stream", "many", "is_chance"] (defScope sQDrawn) := ⟨rfl, rfl, rfl, by decide +kernel, rfl, by decide +kernel, by decide +kernel⟩
def spQDrawn : Sp := fun vs H Q _ => ∃ (s : Addr) (n m : Nat) (b : Bool), vs = [.ref s, .int (m : Nat), .bl b] ∧ Strm H s n ∧ n + 30000 < LIM ∧ m ≤ 13 ∧
  ∀ H' r ps cw cg, SameS s H H' → Rep (fun b => H b = none) H' (qD ps cw cg) r → GoodQ ps cw cg → ps.length = m → Strm H' s (n + 30000) → Q r H'
/-- the defs that the drawing calls -/
structure Dr (K : PySem.W.Frag) (mg : Str → Option Value) where
  draw : Dn K mg "_law_draw" sDraw ["stream", "many"]
  pick : Dn K mg "_law_pick" sPick ["stream", "some"]
  mixed : Dn K mg "_law_mixed" sMixed ["stream", "some"]
  qnames : Dn K mg "_law_q_names" sQNames ["stream", "many"]
  qhand : Dn K mg "_law_q_hand" sQHand ["stream", "is_chance"]
  qclause : Dn K mg "_law_q_clause" sQClause ["stream", "names", "most"]
  qclauses : Dn K mg "_law_q_clauses" sQClauses ["stream", "names", "many", "most"]
theorem ok_qdrawn (B : Bt mg) (N : Dn K mg "_law_q_drawn" sQDrawn ["stream", "many", "is_chance"]) (Z : Dr K mg) : FnOk P w K mg base CX0 5 N.f N.fd ["stream", "many", "is_chance"] spQDrawn := by
  have GN : FnOk P w K mg base CX0 3 Z.qnames.f Z.qnames.fd ["stream", "many"] spQNames := ok_qnames B Z.qnames Z.mixed Z.draw
  have GH : FnOk P w K mg base CX0 3 Z.qhand.f Z.qhand.fd ["stream", "is_chance"] spQHand := ok_qhand B Z.qhand Z.pick Z.draw
  have GC : FnOk P w K mg base CX0 4 Z.qclauses.f Z.qclauses.fd ["stream", "names", "many", "most"] spQClauses := ok_qclauses B Z.qclauses Z.qclause Z.pick Z.mixed Z.draw
  have GD : FnOk P w K mg base CX0 1 Z.draw.f Z.draw.fd ["stream", "many"] spDraw := ok_draw B Z.draw
  refine N.F.ok scQDrawn (fun vs H Q E h => ?_) (fun cdv A outer s H vs Q E hr h => ?_)
  · obtain ⟨s, n, m, b, rfl, _⟩ := h
    rfl
  · obtain ⟨a, n, m, b, rfl, hs, hn, hm, k⟩ := h
    refine ⟨_, pss_cons (ps_set (i := 3) scQDrawn.nd rfl (Or.inl rfl) (pe_call GN (hr.mono (by decide)) (by rfl) Z.qnames.g Z.qnames.F.kp Z.qnames.b .nil pass0 (pa_cons (pv 0) (pa_cons (pv 1) pa_nil))))
      (pss_cons (ps_setLc (i := 4) (own := [("name", 5)]) (g := gName 5) (tt := tYes) (te := tTup (tCons (tVar 5) (tCons (tCall spQHand [] E0 (tCons (tVar 0) (tCons (tVar 2) tNil))) tNil))) (by rfl) scQDrawn.nd rfl rfl (sw_true rfl rfl rfl (by decide +kernel)) (pi_list (pv 3)) (blkOk_by (own := [("name", 5)]) (N := nQDrawn) (sc := defScope sQDrawn) (by decide +kernel)) (fun _ _ _ _ _ => pg_name (i := 5) scQDrawn.nd rfl (Or.inl rfl)) (fun _ _ _ _ _ => pts_nil)
        (fun _ _ _ _ _ => pe_tup (pa_cons (pv 5) (pa_cons (pe_call GH (hr.mono (by decide)) (by rfl) Z.qhand.g Z.qhand.F.kp Z.qhand.b .nil pass0 (pa_cons (pv 0) (pa_cons (pv 2) pa_nil))) pa_nil))))
      (pss_cons (ps_set (i := 6) scQDrawn.nd rfl (Or.inl rfl) (pe_call GC (hr.mono (by decide)) (by rfl) Z.qclauses.g Z.qclauses.F.kp Z.qclauses.b .nil pass0 (pa_cons (pv 0) (pa_cons (pv 3) (pa_cons (pe_call GD (hr.mono (by decide)) (by rfl) Z.draw.g Z.draw.F.kp Z.draw.b .nil pass0 (pa_cons (pv 0) (pa_cons (pe_op op_add (pv 1) pe_int) pa_nil))) (pa_cons pe_int pa_nil))))))
      (pss_cons (ps_set (i := 7) scQDrawn.nd rfl (Or.inl rfl) (pe_call GD (hr.mono (by decide)) (by rfl) Z.draw.g Z.draw.F.kp Z.draw.b .nil pass0 (pa_cons (pv 0) (pa_cons pe_int pa_nil))))
      (pss_one (ps_ret (pe_tup (pa_cons (pv 4) (pa_cons (pv 6) (pa_cons (pe_ifExp (pt_cmp (pc_eqI (pv 7) pe_int) (by rfl)) (pe_call GC (hr.mono (by decide)) (by rfl) Z.qclauses.g Z.qclauses.F.kp Z.qclauses.b .nil pass0 (pa_cons (pv 0) (pa_cons (pv 3) (pa_cons (pe_call GD (hr.mono (by decide)) (by rfl) Z.draw.g Z.draw.F.kp Z.draw.b .nil pass0 (pa_cons (pv 0) (pa_cons pe_int pa_nil))) (pa_cons pe_int pa_nil))))) (pe_lst pa_nil)) pa_nil))))))))), ?_⟩
    refine ⟨_, rfl, _, rfl, a, n, m, rfl, hs, by omega, by omega, fun H1 r1 names sm1 nr1 hr1 hnd hnl hnm hs1 => ?_⟩
    obtain ⟨u0, hu0⟩ := hs.lst
    have n1a : r1 ≠ a := fun z => by rw [z, hu0] at nr1; cases nr1
    refine ⟨_, rfl, r1, rfl, ⟨_, SqL.of hr1⟩, fun D0 hD => ?_⟩
    have hDH := sameS_back sm1 hs1 hD
    have nDa : D0 ≠ a := fun z => by rw [z, hu0] at hDH; cases hDH
    refine lc_list (K := K) (a := r1) (xs := names.map V.str) (fun i H' => SameS a H1 H' ∧ ∃ (ts : List V) (ps : List (Str × D)), H' D0 = some (.lst ts) ∧ Reps (fun _ => False) H' (ps.map pairD) ts ∧ ps.map Prod.fst = names.take i ∧ (∀ p ∈ ps, p.2 ∈ qHands) ∧ Strm H' a (n + 100 + 2 * i))
      ⟨(SameS.refl H1).new hD, [], [], upd_same, rfl, rfl, fun p h => by simp at h, hs1.same (Same.new hD)⟩ (fun i H' _ h => SqL.of (h.1 _ _ n1a hr1)) ?_ ?_
    · rintro i x H' hx ⟨sm', ts, ps, hts, hrp, hpn, hph, hs'⟩
      rw [List.getElem?_map] at hx
      cases hj : names[i]? with
      | none => rw [hj] at hx; cases hx
      | some y =>
        rw [hj] at hx
        cases hx
        have hlt : i < names.length := (List.getElem?_eq_some_iff.mp hj).1
        refine ⟨rfl, ?_⟩
        refine ⟨_, rfl, _, rfl, _, rfl, a, n + 100 + 2 * i, b, rfl, hs', by omega, fun H2 v d sm2 rd hdq hs2 => ⟨by show 2 ≤ sizeLine; decide, fun t ht => ?_⟩⟩
        obtain ⟨q1, q2, q3, q4⟩ := qHands_ok hdq
        have hts2 := sm2 D0 _ nDa hts
        have smt : SameS a H' (upd H2 t (.tup [.str y, v])) := sm2.new ht
        have s2t : Same H2 (upd H2 t (.tup [.str y, v])) := Same.new ht
        have hts3 := s2t _ _ hts2
        have htt : upd H2 t (.tup [.str y, v]) t = some (.tup [.str y, v]) := upd_same
        have hs3 := hs2.same s2t
        have rd3 := rd.same s2t
        generalize upd H2 t (.tup [.str y, v]) = H3 at smt hts3 htt hs3 rd3 ⊢
        have st : ∀ o, Stay (fun _ => False) H3 (upd H3 D0 o) := fun o => stay_upd hts3 (nd_lst fun z => z)
        have hln := hrp.length
        rw [List.length_map] at hln
        have hpl := congrArg List.length hpn
        rw [List.length_map, List.length_take] at hpl
        refine ⟨ts, hts3, Nat.lt_of_lt_of_le (show ts.length < 1000 by omega) (by decide), (sm'.trans smt).at hD, ts ++ [.ref t], ps ++ [(y, d)], upd_same, ?_, ?_, ?_, ?_⟩
        · rw [List.map_append]
          refine Reps.append (Reps.mono (fun _ z => z) (st _) (sameS_reps smt hs' (fun z => z) hrp)) (Reps.one ?_)
          refine ⟨t, _, rfl, st _ _ _ htt (.inr (.inl ⟨_, rfl⟩)), _, _, rfl, rfl, _, _, rfl, ?_, rfl⟩
          show Rep _ _ (handD d) v
          rw [q2]
          exact Rep.mono (fun _ z => z) (st _) rd3
        · rw [List.map_append, hpn, List.take_add_one, hj]
          rfl
        · intro p hp
          rcases List.mem_append.mp hp with hp | hp
          · exact hph p hp
          · rw [show p = (y, d) by simpa using hp]
            exact hdq
        · exact (hs3.mono (by omega)).at nDa
    rintro H2 ⟨sm2, ts, ps, hts, hrp, hpn, hph, hs2⟩
    rw [List.length_map] at hpn hs2
    rw [List.take_length] at hpn
    refine tSeq_two (R := fun σ H3 => (∃ o5, σ = [some (.ref a), some (.int (m : Nat)), some (.bl b), some (.ref r1), some (.ref D0), o5, none, none]) ∧ H2 = H3) (fun D' hD => hD _ _ ⟨⟨_, rfl⟩, rfl⟩) ?_
    rintro σ H3 ⟨⟨o5, rfl⟩, e3⟩
    subst e3
    have smA := sm1.trans sm2
    have hr2 := sm2 _ _ n1a hr1
    refine ⟨_, rfl, _, rfl, _, rfl, _, rfl, (m : Nat), 2, rfl, rfl, a, _, m + 2, rfl, hs2, by omega, by omega, by omega, fun u d hd hs3 => ?_⟩
    have sm3 : SameS a H2 (upd H2 a (.lst u)) := (SameS.refl H2).upd
    generalize upd H2 a (.lst u) = H3 at sm3 hs3 ⊢
    have hr3 := sm3 _ _ n1a hr2
    refine ⟨a, r1, _, d, names, rfl, hs3, by omega, by omega, hr3, n1a, by omega, hnm, fun H4 vw cw sm4 rw4 io4 lw4 hs4 => ?_⟩
    have hr4 := sm4 _ _ n1a hr3
    refine ⟨_, rfl, a, _, 3, rfl, hs4, by omega, by decide, by decide, fun u2 d2 hd2 hs5 => ?_⟩
    have sm5 : SameS a H4 (upd H4 a (.lst u2)) := (SameS.refl H4).upd
    generalize upd H4 a (.lst u2) = H5 at sm5 hs5 ⊢
    have hr5 := sm5 _ _ n1a hr4
    have smB := smA.trans sm3
    have smC := (smB.trans sm4).trans sm5
    have b3 : ∀ b, H3 b = none → H b = none := fun b e => sameS_back smB hs3 e
    have b5 : ∀ b, H5 b = none → H b = none := fun b e => sameS_back smC hs5 e
    have n3a : ¬ (fun b => H3 b = none) a := fun z => by
      have z1 : H3 a = none := z
      have := b3 a z1
      rw [hu0] at this
      cases this
    have n5a : ¬ (fun b => H5 b = none) a := fun z => by
      have z1 : H5 a = none := z
      have := b5 a z1
      rw [hu0] at this
      cases this
    have rw5 := sameS_rep sm5 hs4 n3a rw4
    have fin : ∀ H6 vg cg n6, SameS a H5 H6 → Rep (fun b => H5 b = none) H6 (clausesD cg) vg → InOrd names cg → cg.length ≤ 22 → Strm H6 a n6 → n6 ≤ n + 30000 → 3 ≤ sizeLine ∧ ∀ p, H6 p = none → Q (.ref p) (upd H6 p (.tup [.ref D0, vw, vg])) := fun H6 vg cg n6 sm6 rg iog lg hs6 hn6 => by
      refine ⟨by decide, fun p hp => ?_⟩
      have s67 : Same H6 (upd H6 p (.tup [.ref D0, vw, vg])) := Same.new hp
      have hp7 : upd H6 p (.tup [.ref D0, vw, vg]) p = some (.tup [.ref D0, vw, vg]) := upd_same
      have sm7 := (smC.trans sm6).new hp (o := .tup [.ref D0, vw, vg])
      generalize upd H6 p (.tup [.ref D0, vw, vg]) = H7 at s67 hp7 sm7 ⊢
      have h7 : H7 D0 = some (.lst ts) := s67 _ _ (sm6 _ _ nDa (sm5 _ _ nDa (sm4 _ _ nDa (sm3 _ _ nDa hts))))
      have hrp7 : Reps (fun _ => False) H7 (ps.map pairD) ts := (sameS_reps (((sm3.trans sm4).trans sm5).trans sm6) hs2 (fun z => z) hrp).same s67
      refine k H7 (.ref p) ps cw cg sm7 ⟨p, _, rfl, hp7, .ref D0, _, rfl, ⟨D0, ts, rfl, hDH, h7, Reps.mono (fun _ z => z.elim) (fun _ _ e _ => e) hrp7⟩, vw, _, rfl, ?_, vg, _, rfl, ?_, rfl⟩ ⟨by rw [hpn]; exact hnd, by rw [hpn]; exact hnm, hph, by rw [hpn]; exact io4, by rw [hpn]; exact iog, lw4, lg, ?_⟩ ?_ ((hs6.mono hn6).same s67)
      · exact Rep.mono (fun b e => b3 b e) (stay_of s67) (sameS_rep sm6 hs5 n3a rw5)
      · exact Rep.mono (fun b e => b5 b e) (stay_of s67) rg
      · have := congrArg List.length hpn
        rw [List.length_map] at this
        omega
      · have := congrArg List.length hpn
        rw [List.length_map] at this
        omega
    refine ⟨_, rfl, _, rfl, _, rfl, d2, 0, rfl, rfl, ⟨_, rfl, ite2 (fun h => ?_) (fun h => ?_)⟩⟩
    · refine ⟨_, rfl, _, rfl, _, rfl, a, _, 3, rfl, hs5, by omega, by decide, by decide, fun u3 d3 hd3 hs6 => ?_⟩
      have sm6 : SameS a H5 (upd H5 a (.lst u3)) := (SameS.refl H5).upd
      generalize upd H5 a (.lst u3) = H6 at sm6 hs6 ⊢
      refine ⟨a, r1, _, d3, names, rfl, hs6, by omega, by omega, sm6 _ _ n1a hr5, n1a, by omega, hnm, fun H7 vg cg sm7 rg io7 lg hs7 => ?_⟩
      exact fin H7 vg cg _ (sm6.trans sm7) (Rep.mono (fun b e => sameS_back sm6 hs6 e) (fun _ _ e _ => e) rg) io7 lg hs7 (by omega)
    · refine ⟨Nat.zero_le _, fun q hq => ?_⟩
      exact fin _ (.ref q) [] _ ((SameS.refl H5).new hq) ⟨q, [], rfl, hq, upd_same, rfl⟩ (fun c hc => by simp at hc) (Nat.zero_le _) (hs5.same (Same.new hq)) (by omega)
end
end Q1

set_option Elab.async false
set_option maxRecDepth 100000
set_option maxHeartbeats 4000000
namespace Q1
open PySem L2 LamX
mutual
/-- the same data, its sequences of either kind -/
def Loose : D → D → Prop
  | .lst xs, e => ∃ ys, e.items? = some ys ∧ Looses xs ys
  | .tup xs, e => ∃ ys, e.items? = some ys ∧ Looses xs ys
  | d, e => e = d
def Looses : List D → List D → Prop
  | [], ys => ys = []
  | x :: xs, ys => ∃ y r, ys = y :: r ∧ Loose x y ∧ Looses xs r
end
theorem Looses.snoc : ∀ {xs ys : List D} {x y : D}, Looses xs ys → Loose x y → Looses (xs ++ [x]) (ys ++ [y])
  | [], _, x, y, h, k => by cases h; exact ⟨y, [], rfl, k, rfl⟩
  | _ :: _, _, x, y, h, k => by
    obtain ⟨z, r, rfl, h1, h2⟩ := h
    exact ⟨z, r ++ [y], rfl, h1, Looses.snoc h2 k⟩
theorem Looses.length : ∀ {xs ys : List D}, Looses xs ys → ys.length = xs.length
  | [], _, h => by cases h; rfl
  | _ :: _, _, h => by
    obtain ⟨y, r, rfl, _, h2⟩ := h
    rw [List.length_cons, List.length_cons, Looses.length h2]
mutual
def D.sz : D → Nat
  | .lst xs => szs xs + 1
  | .tup xs => szs xs + 1
  | _ => 1
def szs : List D → Nat
  | [] => 0
  | x :: xs => x.sz + szs xs
end
theorem szs_snoc : ∀ (xs : List D) (x : D), szs (xs ++ [x]) = szs xs + x.sz
  | [], x => by show x.sz + 0 = 0 + x.sz; omega
  | y :: xs, x => by
    show y.sz + szs (xs ++ [x]) = y.sz + szs xs + x.sz
    rw [szs_snoc xs x]
    omega
theorem D.sz_pos : ∀ d : D, 1 ≤ d.sz
  | .lst _ => Nat.succ_le_succ (Nat.zero_le _)
  | .tup _ => Nat.succ_le_succ (Nat.zero_le _)
  | .non | .bl _ | .int _ | .str _ | .dic => Nat.le_refl _
theorem szs_len : ∀ xs : List D, xs.length ≤ szs xs
  | [] => Nat.le_refl _
  | x :: xs => by
    show xs.length + 1 ≤ x.sz + szs xs
    have := x.sz_pos
    have := szs_len xs
    omega
theorem szs_take : ∀ (xs : List D) (i : Nat), szs (xs.take i) ≤ szs xs
  | [], i => by rw [List.take_nil]; exact Nat.le_refl _
  | x :: xs, 0 => Nat.zero_le _
  | x :: xs, i + 1 => by
    show x.sz + szs (xs.take i) ≤ x.sz + szs xs
    have := szs_take xs i
    omega
theorem D.sz_items {d : D} {ds : List D} (h : d.items? = some ds) : d.sz = szs ds + 1 := by
  cases d with
  | lst xs => cases (show some xs = some ds from h); rfl
  | tup xs => cases (show some xs = some ds from h); rfl
  | _ => cases h
theorem Loose.of_items {d e : D} {ds es : List D} (h : d.items? = some ds) (k : e.items? = some es) (l : Looses ds es) : Loose d e := by
  cases d with
  | lst xs => cases (show some xs = some ds from h); exact ⟨es, k, l⟩
  | tup xs => cases (show some xs = some ds from h); exact ⟨es, k, l⟩
  | _ => cases h
theorem D.ok_items {n : Nat} {d : D} {ds : List D} (h : d.items? = some ds) (k : d.ok n) : ∃ j, n = j + 1 ∧ oks j ds := by
  cases n with
  | zero =>
    cases d with
    | lst xs => exact k.elim
    | tup xs => exact k.elim
    | _ => cases h
  | succ j =>
    cases d with
    | lst xs => cases (show some xs = some ds from h); exact ⟨j, rfl, k⟩
    | tup xs => cases (show some xs = some ds from h); exact ⟨j, rfl, k⟩
    | _ => cases h
/-- a comprehension over a list or a tuple -/
theorem lc_seqG {K : PySem.W.Frag} {a : Addr} {xs : List V} {H1 : Hp} {g : TG} {tt : TT} {te : TE} {vs : List Nat} {σ : L2.St} {Qd : Addr → Hp → Prop} (hq : SqL K H1 a xs ∨ SqT K H1 a xs)
    (Pv : Addr → Nat → Hp → Prop) (h0 : ∀ D, H1 D = none → Pv D 0 (upd H1 D (.lst []))) (hL : ∀ D i H', Pv D i H' → SqL K H1 a xs → SqL K H' a xs) (hT : ∀ D i H', Pv D i H' → SqT K H1 a xs → SqT K H' a xs)
    (hs : ∀ D, H1 D = none → ∀ i x H, xs[i]? = some x → Pv D i H → g x (wipe σ vs) H fun σ2 H2 => wipe σ2 vs = wipe σ vs ∧ tt σ2 H2 fun b H3 =>
      if b = true then te σ2 H3 fun y H4 => ∃ acc, H4 D = some (.lst acc) ∧ acc.length < sizeLine ∧ Pv D (i + 1) (upd H4 D (.lst (acc ++ [y]))) else Pv D (i + 1) H3) (hd : ∀ D, H1 D = none → ∀ H, Pv D xs.length H → Qd D H) :
    ((∃ xs, SqL K H1 a xs) ∧ (fun (J : It) (H1 : Hp) => ∀ D, H1 D = none → ∃ W : Nat → Nat → Hp → Prop, (∃ m, W 0 m (upd H1 D (.lst []))) ∧ ∀ i m H, W i m H →
      (J.stop i H ∧ Qd D H) ∨ (J.go i H ∧ ∃ Nx : Hp → Prop, (∀ H', Nx H' → ∃ m', m' < m ∧ W (i + 1) m' H') ∧ ∀ x H', J.yld i H x H' → g x (wipe σ vs) H' fun σ2 H2 => wipe σ2 vs = wipe σ vs ∧ tt σ2 H2 fun b H3 =>
        if b = true then te σ2 H3 fun y H4 => ∃ acc, H4 D = some (.lst acc) ∧ acc.length < sizeLine ∧ Nx (upd H4 D (.lst (acc ++ [y]))) else Nx H3)) (Itl K a) H1) ∨ ((∃ xs, SqT K H1 a xs) ∧ (fun (J : It) (H1 : Hp) => ∀ D, H1 D = none → ∃ W : Nat → Nat → Hp → Prop, (∃ m, W 0 m (upd H1 D (.lst []))) ∧ ∀ i m H, W i m H →
      (J.stop i H ∧ Qd D H) ∨ (J.go i H ∧ ∃ Nx : Hp → Prop, (∀ H', Nx H' → ∃ m', m' < m ∧ W (i + 1) m' H') ∧ ∀ x H', J.yld i H x H' → g x (wipe σ vs) H' fun σ2 H2 => wipe σ2 vs = wipe σ vs ∧ tt σ2 H2 fun b H3 =>
        if b = true then te σ2 H3 fun y H4 => ∃ acc, H4 D = some (.lst acc) ∧ acc.length < sizeLine ∧ Nx (upd H4 D (.lst (acc ++ [y]))) else Nx H3)) (Itt K a) H1) := by
  rcases hq with hq | hq
  · refine .inl ⟨⟨xs, hq⟩, fun D hD => lc_it walk_list (Pv D) (h0 D hD) (fun i H' _ p => hL D i H' p hq) (fun i x H' H2 hi p y => ?_) (hd D hD)⟩
    obtain ⟨rfl, hx⟩ := y
    exact hs D hD i x _ hx p
  · refine .inr ⟨⟨xs, hq⟩, fun D hD => lc_it walk_tup (Pv D) (h0 D hD) (fun i H' _ p => hT D i H' p hq) (fun i x H' H2 hi p y => ?_) (hd D hD)⟩
    obtain ⟨rfl, hx⟩ := y
    exact hs D hD i x _ hx p
theorem leaf_of {d : D} (h : d.items? = none) : d.free ∧ Loose d d := by
  cases d with
  | lst xs => cases h
  | tup xs => cases h
  | _ => exact ⟨trivial, rfl⟩
theorem Rep.ne {S : Addr → Prop} {H : Hp} {d : D} {l a : Addr} {u : List V} {ds : List D} (h : Rep S H d (.ref l)) (e : d.items? = some ds) (hu : H a = some (.lst u)) (n : ¬ S a) : l ≠ a := by
  cases d with
  | lst xs =>
    obtain ⟨b, vs, e1, sb, _⟩ := h
    cases e1
    exact fun z => n (z ▸ sb)
  | tup xs =>
    obtain ⟨b, vs, e1, hb, _⟩ := h
    cases e1
    exact fun z => by rw [z, hu] at hb; cases hb
  | _ => cases e
theorem SameS.seqT {K : PySem.W.Frag} {s l : Addr} {H H' : Hp} {xs : List V} (h : SameS s H H') (n : l ≠ s) (q : SqT K H l xs) : SqT K H' l xs := by
  rcases q with (q | ⟨o, q⟩) | q
  · exact .inl (.inl (h l _ n q))
  · exact .inl (.inr ⟨o, h l _ n q⟩)
  · exact .inr q
section
variable {P : Program} {w : World} {K : PySem.W.Frag} {mg : Str → Option Value} {base : Heap}
/-! ### _law_q_loose -/
abbrev sLoose : Stmt := top 37
abbrev nLoose : List Str := ["stream", "thing", "found", "part"]
theorem scLoose : FnScope nLoose ["stream", "thing"] (defScope sLoose) := ⟨rfl, rfl, rfl, by decide +kernel, rfl, by decide +kernel, by decide +kernel⟩
/-- at rank n + 1: data of n storeys at most -/
def spLoose : Nat → Sp
  | 0 => fun _ _ _ _ => False
  | n + 1 => fun vs H Q _ => ∃ (S : Addr → Prop) (s : Addr) (N : Nat) (d : D) (v : V), vs = [.ref s, v] ∧ Strm H s N ∧ N + d.sz < LIM ∧ d.sz ≤ 1000000 ∧ Rep S H d v ∧ ¬ S s ∧ d.ok n ∧
      ∀ H' v' e, SameS s H H' → Rep (fun b => H b = none) H' e v' → Loose d e → Strm H' s (N + d.sz) → Q v' H'
theorem ok_loose (B : Bt mg) (N : Dn K mg "_law_q_loose" sLoose ["stream", "thing"]) (ND : Dn K mg "_law_draw" sDraw ["stream", "many"]) : ∀ n, FnOk P w K mg base CX0 (n + 2) N.f N.fd ["stream", "thing"] (spLoose n)
  | 0 => ⟨fun vs H Q E h => h.elim, fun A outer s H args us vs Q E hr he hb hv hs => hs.elim⟩
  | n + 1 => by
    have GR : FnOk P w K mg base CX0 (n + 2) N.f N.fd ["stream", "thing"] (spLoose n) := ok_loose B N ND n
    have GD : FnOk P w K mg base CX0 1 ND.f ND.fd ["stream", "many"] spDraw := ok_draw B ND
    refine N.F.ok scLoose (fun vs H Q E h => ?_) (fun cdv A outer s H vs Q E hr h => ?_)
    · obtain ⟨S, s, M, d, v, rfl, _⟩ := h
      rfl
    · obtain ⟨S, a, M, d, v, rfl, hs, hM, hsz, hd, hS, hok, k⟩ := h
      refine ⟨_, pss_cons (ps_if (pt_val (pe_callB call_isiT (by rfl) B.isi PyProof.Rows.boot_isinstance (pa_cons (pv 1) (pa_cons (pe_tup (pa_cons (pe_bltn (v := .ty "list") rfl B.lst PyProof.Rows.boot_list rfl) (pa_cons (pe_bltn (v := .ty "tuple") rfl B.tup PyProof.Rows.boot_tuple rfl) pa_nil))) pa_nil))) (fun _ => rfl))
          (pss_cons (ps_setLc (i := 2) (own := [("part", 3)]) (g := gName 3) (tt := tYes) (te := tCall (spLoose n) [] E0 (tCons (tVar 0) (tCons (tVar 3) tNil))) (by rfl) scLoose.nd rfl rfl (sw_true rfl rfl rfl (by decide +kernel)) (pi_seq (pv 1)) (blkOk_by (own := [("part", 3)]) (N := nLoose) (sc := defScope sLoose) (by decide +kernel)) (fun _ _ _ _ _ => pg_name (i := 3) scLoose.nd rfl (Or.inl rfl)) (fun _ _ _ _ _ => pts_nil)
            (fun _ _ _ _ _ => pe_call GR hr (by rfl) N.g N.F.kp N.b .nil pass0 (pa_cons (pv 0) (pa_cons (pv 3) pa_nil))))
          (pss_one (ps_ret (pe_ifExp (pt_cmpR op_eq (pe_call GD (hr.mono (by omega)) (by rfl) ND.g ND.F.kp ND.b .nil pass0 (pa_cons (pv 0) (pa_cons pe_int pa_nil))) pe_int (nomark _)) (pv 2) (pe_callTy call_tupOf (by rfl) B.tup PyProof.Rows.boot_tuple (pa_cons (pv 2) pa_nil)))))) pss_nil)
        (pss_one (ps_ret (pv 1))), ?_⟩
      refine ⟨_, rfl, by show 2 ≤ sizeLine; decide, fun p hp => ?_⟩
      have s1 : Same H (upd H p (.tup [.ty "list", .ty "tuple"])) := Same.new hp
      have hp1 : upd H p (.tup [.ty "list", .ty "tuple"]) p = some (.tup [.ty "list", .ty "tuple"]) := upd_same
      generalize upd H p (.tup [.ty "list", .ty "tuple"]) = H1 at s1 hp1 ⊢
      have hd1 := hd.same s1
      have hs1 := hs.same s1
      obtain ⟨u0, hu0⟩ := hs.lst
      obtain ⟨u1, hu1⟩ := hs1.lst
      refine ⟨_, p, _, _, [.type "list", .type "tuple"], _, rfl, hp1, .cons (.ty "list") (.cons (.ty "tuple") .nil), hd1.ty, kit_list d, _, rfl, ?_⟩
      cases hi : d.items? with
      | none =>
        have e0 : d.isList = false := by unfold D.isList; rw [hi]; rfl
        rw [e0]
        obtain ⟨f1, f2⟩ := leaf_of hi
        exact iteF ⟨_, rfl, k H1 v d (SameS.of s1) (hd1.free f1) f2 (hs1.mono (by omega))⟩
      | some ds =>
        have e0 : d.isList = true := by unfold D.isList; rw [hi]; rfl
        rw [e0]
        obtain ⟨j, rfl, hds⟩ := D.ok_items hi hok
        have hsz2 := D.sz_items hi
        obtain ⟨l, us, rfl, hq, rr⟩ := hd1.seq (K := K) hi
        have nla : l ≠ a := hd1.ne hi hu1 hS
        have hul : us.length = ds.length := rr.length
        have hdl := szs_len ds
        refine iteT ?_
        refine ⟨_, rfl, l, rfl, lc_seqG hq (fun D0 i H' => SameS a H1 H' ∧ ∃ (vs : List V) (es : List D), H' D0 = some (.lst vs) ∧ Reps (fun b => H b = none ∧ b ≠ D0) H' es vs ∧ Looses (ds.take i) es ∧ Strm H' a (M + szs (ds.take i)))
          (fun D0 hD => ⟨(SameS.refl H1).new hD, [], [], upd_same, rfl, rfl, hs1.same (Same.new hD)⟩) (fun D0 i H' x q => x.1.seqL nla q) (fun D0 i H' x q => x.1.seqT nla q) ?_ ?_⟩
        · rintro D0 hD i x H' hx ⟨sm', vs, es, hv, hr, hl, hst⟩
          have nDa : D0 ≠ a := fun z => by rw [z, hu1] at hD; cases hD
          have hDH : H D0 = none := by
            cases z : H D0 with
            | none => rfl
            | some o => rw [s1 _ _ z] at hD; cases hD
          obtain ⟨dx, hdx, hrx⟩ := (sameS_reps sm' hs1 hS rr).get hx
          have hlt : i < us.length := (List.getElem?_eq_some_iff.mp hx).1
          have et : ds.take (i + 1) = ds.take i ++ [dx] := by rw [List.take_add_one, hdx]; rfl
          have es1 := szs_take ds (i + 1)
          rw [et, szs_snoc] at es1
          have hln := hr.length
          refine ⟨rfl, ?_⟩
          refine ⟨_, rfl, _, rfl, S, a, M + szs (ds.take i), dx, x, rfl, hst, by omega, by omega, hrx, hS, oks_all hds dx (List.mem_of_getElem? hdx), fun H2 v' e sm2 re le hs2 => ?_⟩
          have hv2 := sm2 D0 _ nDa hv
          have st : ∀ o, Stay (fun b => H b = none ∧ b ≠ D0) H2 (upd H2 D0 o) := fun o => stay_upd hv2 (nd_lst fun z => z.2 rfl)
          have n0 : ¬ (fun b => H b = none ∧ b ≠ D0) a := fun z => by
            have z1 : H a = none := z.1
            rw [hu0] at z1
            cases z1
          refine ⟨vs, hv2, Nat.lt_of_lt_of_le (show vs.length < 1000001 by
            have q1 := hl.length
            rw [List.length_take] at q1
            omega) (by decide), (sm'.trans sm2).at hD, vs ++ [v'], es ++ [e], upd_same, ?_, ?_, ?_⟩
          · refine Reps.append (Reps.mono (fun _ z => z) (st _) (sameS_reps sm2 hst n0 hr)) (Reps.one (Rep.mono (fun _ z => z) (st _) (Rep.mono (fun b z => ⟨?_, fun q => ?_⟩) (fun _ _ e _ => e) re)))
            · exact sameS_back ((SameS.of s1).trans sm') hst z
            · have z1 : H' b = none := z
              rw [q, hv] at z1
              cases z1
          · rw [et]
            exact hl.snoc le
          · rw [et, szs_snoc]
            exact (hs2.mono (by omega)).at nDa
        · rintro D0 hD H' ⟨sm', vs, es, hv, hr, hl, hst⟩
          have nDa : D0 ≠ a := fun z => by rw [z, hu1] at hD; cases hD
          have hDH : H D0 = none := by
            cases z : H D0 with
            | none => rfl
            | some o => rw [s1 _ _ z] at hD; cases hD
          rw [hul, List.take_length] at hl hst
          refine tSeq_two (R := fun σ H3 => (∃ o5, σ = [some (.ref a), some (.ref l), some (.ref D0), o5]) ∧ H' = H3) (fun D' hD => hD _ _ ⟨⟨_, rfl⟩, rfl⟩) ?_
          rintro σ H3 ⟨⟨o5, rfl⟩, e3⟩
          subst e3
          refine ⟨_, rfl, a, M + szs ds, 2, rfl, hst, by omega, by decide, by decide, fun u dd hdd hs3 => ⟨rfl, _, rfl, ?_⟩⟩
          have sm3 : SameS a H (upd H' a (.lst u)) := ((SameS.of s1).trans sm').upd
          have smx : SameS a H' (upd H' a (.lst u)) := (SameS.refl H').upd
          have n0 : ¬ (fun b => H b = none ∧ b ≠ D0) a := fun z => by
            have z1 : H a = none := z.1
            rw [hu0] at z1
            cases z1
          have hv3 := smx D0 _ nDa hv
          have hr3 := sameS_reps smx hst n0 hr
          generalize upd H' a (.lst u) = H4 at sm3 smx hv3 hr3 hs3 ⊢
          refine ite2 (fun h => ?_) (fun h => ?_)
          · exact ⟨_, rfl, k H4 (.ref D0) (.lst es) sm3 ⟨D0, vs, rfl, hDH, hv3, Reps.mono (fun _ z => z.1) (fun _ _ e _ => e) hr3⟩ (Loose.of_items hi rfl hl) (hs3.mono (by omega))⟩
          · refine ⟨_, rfl, D0, vs, rfl, .inl ⟨SqL.of hv3, fun q hq => ?_⟩⟩
            have sq : Same H4 (upd H4 q (.tup vs)) := Same.new hq
            exact k _ (.ref q) (.tup es) (sm3.new hq) ⟨q, vs, rfl, upd_same, Reps.mono (fun _ z => z.1) (stay_of sq) hr3⟩ (Loose.of_items hi rfl hl) ((hs3.mono (by omega)).same sq)
end
end Q1

set_option Elab.async false
set_option maxRecDepth 100000
set_option maxHeartbeats 4000000
namespace Q1
open PySem L2 LamX
/-! ### what a loosely passed question is -/
theorem stop_of {α β : Type} {f : β → α → Option β} : ∀ {xs : List α} {b c : β} (n : Nat), optFold f xs b = some c → stopAt f xs b n = none
  | [], _, _, _, _ => rfl
  | x :: xs, b, c, n, h => by
    rw [optFold_cons] at h
    show (match f b x with | none => some n | some d => stopAt f xs d (n + 1)) = none
    cases e : f b x with
    | none => rw [e] at h; cases h
    | some d => rw [e] at h; exact stop_of (n + 1) h
theorem loose_two {a b e : D} {xs : List D} (h : Looses [a, b] xs) (k : e.items? = some xs) : ∃ y z, e.items? = some [y, z] ∧ Loose a y ∧ Loose b z := by
  obtain ⟨y, r, rfl, h1, z, r2, rfl, h2, h3⟩ := h
  cases (show r2 = [] from h3)
  exact ⟨y, z, k, h1, h2⟩
theorem hand_loose {d y : D} (h : d ∈ qHands) (l : Loose d y) : y.isHand = true ∧ handD y = handD d := by
  simp only [qHands, List.mem_cons, List.not_mem_nil, or_false] at h
  have two : ∀ i j : Int, Loose (.tup [.int i, .int j]) y → y = .lst [.int i, .int j] ∨ y = .tup [.int i, .int j] := fun i j l => by
    obtain ⟨xs, hx, hl⟩ := l
    obtain ⟨p, q, hpq, e1, e2⟩ := loose_two hl hx
    cases (show p = .int i from e1)
    cases (show q = .int j from e2)
    cases y with
    | lst zs => cases (show some zs = some _ from hpq); exact .inl rfl
    | tup zs => cases (show some zs = some _ from hpq); exact .inr rfl
    | _ => cases hpq
  rcases h with rfl | rfl | rfl | rfl | rfl | rfl | rfl | rfl
  all_goals first
    | (rcases two _ _ l with rfl | rfl <;> exact ⟨by decide +kernel, rfl⟩)
    | (cases (show y = _ from l); exact ⟨by decide +kernel, rfl⟩)
theorem qNames_name : ∀ x ∈ qNames, isNameS x = true := by decide +kernel
theorem marks_loose : ∀ {ps : List (Str × D)} {ds : List D} {acc : List Str}, (∀ p ∈ ps, p.2 ∈ qHands) → (∀ x ∈ ps.map Prod.fst, x ∈ qNames) → Looses (ps.map pairD) ds → (acc ++ ps.map Prod.fst).Nodup →
    ∃ qs : List (Str × D), ds.map D.items? = qs.map (fun p => some [D.str p.1, p.2]) ∧ (∀ p ∈ qs, p.2.isHand = true) ∧ qs.map Prod.fst = ps.map Prod.fst ∧ qs.map (fun p => handD p.2) = ps.map (fun p => handD p.2) ∧ optFold markS ds acc = some (acc ++ ps.map Prod.fst)
  | [], ds, acc, _, _, h, _ => by
    cases (show ds = [] from h)
    exact ⟨[], rfl, fun p hp => by simp at hp, rfl, rfl, by rw [List.map_nil, List.append_nil]; rfl⟩
  | p :: ps, ds, acc, hh, hn, h, nd => by
    obtain ⟨d, r, rfl, hd, hr⟩ := h
    obtain ⟨xs, hx, hl⟩ := hd
    obtain ⟨y, z, hyz, h1, h2⟩ := loose_two hl hx
    cases (show y = .str p.1 from h1)
    have hp := hh p List.mem_cons_self
    rw [(qHands_ok hp).2.1] at h2
    obtain ⟨g1, g2⟩ := hand_loose hp h2
    have hnm : p.1 ∈ qNames := hn p.1 (by simp)
    have m1 : mark1 d = some p.1 := by
      unfold mark1
      rw [hyz]
      show (if isNameS p.1 && z.isHand then some p.1 else none) = some p.1
      rw [qNames_name _ hnm, g1]
      rfl
    have nin : ¬ p.1 ∈ acc := fun hm => by
      rw [List.nodup_append] at nd
      exact nd.2.2 _ hm p.1 (by simp) rfl
    obtain ⟨qs, q1, q2, q3, q4, q5⟩ := marks_loose (acc := acc ++ [p.1]) (fun q hq => hh q (List.mem_cons_of_mem _ hq)) (fun x hx => hn x (by rw [List.map_cons]; exact List.mem_cons_of_mem _ hx)) hr (by rw [List.append_assoc]; exact nd)
    refine ⟨(p.1, z) :: qs, by rw [List.map_cons, List.map_cons, q1, hyz], fun q hq => ?_, by rw [List.map_cons, List.map_cons, q3], by rw [List.map_cons, List.map_cons, q4, g2], ?_⟩
    · rcases List.mem_cons.mp hq with rfl | hq
      · exact g1
      · exact q2 q hq
    · rw [optFold_cons]
      have e : markS acc d = some (acc ++ [p.1]) := by
        unfold markS
        rw [m1]
        show (if p.1 ∈ acc then none else some (acc ++ [p.1])) = _
        rw [if_neg nin]
      rw [e]
      show optFold markS r (acc ++ [p.1]) = _
      rw [q5, List.append_assoc]
      rfl
theorem isMarks_loose {ps : List (Str × D)} {cw cg : List (List (Str × Bool))} {d : D} (g : GoodQ ps cw cg) (l : Loose (.lst (ps.map pairD)) d) : ∃ qs, IsMarks d qs ∧ firstMark d = none ∧ qs.map Prod.fst = ps.map Prod.fst ∧ qs.map (fun p => handD p.2) = ps.map (fun p => handD p.2) := by
  obtain ⟨ds, h1, h2⟩ := l
  obtain ⟨qs, q1, q2, q3, q4, q5⟩ := marks_loose (acc := []) g.hd g.nm h2 (by simpa using g.nd)
  rw [List.nil_append, ← q3] at q5
  refine ⟨qs, ⟨ds, h1, q1, q2, q5⟩, ?_, q3, q4⟩
  unfold firstMark
  rw [h1]
  exact stop_of 0 q5
end Q1

set_option Elab.async false
set_option maxRecDepth 100000
set_option maxHeartbeats 4000000
namespace Q1
open PySem L2 LamX
theorem lits_loose {names : List Str} : ∀ {c : List (Str × Bool)} {ds : List D} {acc : List (Str × Bool)}, Looses (c.map litD) ds → (∀ l ∈ c, l.1 ∈ names) → (acc.map Prod.fst ++ c.map Prod.fst).Nodup → optFold (litS names) ds acc = some (acc ++ c)
  | [], ds, acc, h, _, _ => by
    cases (show ds = [] from h)
    rw [List.append_nil]
    rfl
  | l :: c, ds, acc, h, hn, nd => by
    obtain ⟨d, r, rfl, hd, hr⟩ := h
    obtain ⟨xs, hx, hl⟩ := hd
    obtain ⟨y, z, hyz, h1, h2⟩ := loose_two hl hx
    cases (show y = .str l.1 from h1)
    cases (show z = .bl l.2 from h2)
    have hnm := hn l List.mem_cons_self
    have m1 : lit1 names d = some l := by
      unfold lit1
      rw [hyz]
      show (if l.1 ∈ names then some (l.1, l.2) else none) = some l
      rw [if_pos hnm]
    have nin : ¬ l.1 ∈ acc.map Prod.fst := fun hm => by
      rw [List.nodup_append] at nd
      exact nd.2.2 _ hm l.1 (by simp) rfl
    rw [optFold_cons]
    have e : litS names acc d = some (acc ++ [l]) := by
      unfold litS
      rw [m1]
      show (if l.1 ∈ acc.map Prod.fst then none else some (acc ++ [l])) = _
      rw [if_neg nin]
    rw [e]
    show optFold (litS names) r (acc ++ [l]) = _
    rw [lits_loose (acc := acc ++ [l]) hr (fun x hx => hn x (List.mem_cons_of_mem _ hx)) (by rw [List.map_append, List.append_assoc]; exact nd), List.append_assoc]
    rfl
theorem litsOf_loose {names : List Str} {c : List (Str × Bool)} {d : D} (h : Loose (litsD c) d) (hn : ∀ l ∈ c, l.1 ∈ names) (nd : (c.map Prod.fst).Nodup) : litsOf names d = some c := by
  obtain ⟨ds, h1, h2⟩ := h
  unfold litsOf
  rw [h1]
  have := lits_loose (acc := []) h2 hn (by simpa using nd)
  rw [List.nil_append] at this
  exact this
theorem clauses_loose {names : List Str} : ∀ {cs : List (List (Str × Bool))} {ds : List D}, Looses (cs.map litsD) ds → (∀ c ∈ cs, (∀ l ∈ c, l.1 ∈ names) ∧ (c.map Prod.fst).Nodup) → ds.map (litsOf names) = cs.map some ∧ optFold (clauseS names) ds () = some ()
  | [], ds, h, _ => by
    cases (show ds = [] from h)
    exact ⟨rfl, rfl⟩
  | c :: cs, ds, h, hc => by
    obtain ⟨d, r, rfl, hd, hr⟩ := h
    have e := litsOf_loose hd (hc c List.mem_cons_self).1 (hc c List.mem_cons_self).2
    obtain ⟨h1, h2⟩ := clauses_loose hr fun x hx => hc x (List.mem_cons_of_mem _ hx)
    refine ⟨by rw [List.map_cons, List.map_cons, e, h1], ?_⟩
    rw [optFold_cons]
    have e2 : clauseS names () d = some () := by unfold clauseS; rw [e]; rfl
    rw [e2]
    exact h2
theorem isClauses_loose {names : List Str} {cs : List (List (Str × Bool))} {d : D} (h : Loose (clausesD cs) d) (hc : ∀ c ∈ cs, (∀ l ∈ c, l.1 ∈ names) ∧ (c.map Prod.fst).Nodup) : IsClauses names d cs ∧ firstClause names d = none := by
  obtain ⟨ds, h1, h2⟩ := h
  obtain ⟨q1, q2⟩ := clauses_loose h2 hc
  refine ⟨⟨ds, h1, q1⟩, ?_⟩
  unfold firstClause
  rw [h1]
  exact stop_of 0 q2
/-! ### literals in the marks' order -/
theorem idx_mono {names : List Str} (nd : names.Nodup) : ∀ {l : List Str}, l.Sublist names → l.Pairwise (fun x y => names.idxOf x < names.idxOf y) := by
  have all : names.Pairwise (fun x y => names.idxOf x < names.idxOf y) := by
    rw [List.pairwise_iff_getElem]
    intro i j hi hj hij
    rw [List.Nodup.idxOf_getElem nd i hi, List.Nodup.idxOf_getElem nd j hj]
    exact hij
  intro l h
  exact List.Pairwise.sublist h all
theorem sort_back {names : List Str} (nd : names.Nodup) {c c' : List (Str × Bool)} (hs : (c.map Prod.fst).Sublist names) (hp : c'.Perm c) : sortLits names c' = c := by
  have h1 : c.Pairwise (fun x y => names.idxOf x.1 < names.idxOf y.1) := by
    have := idx_mono nd hs
    rw [List.pairwise_map] at this
    exact this
  refine List.Perm.eq_of_pairwise (le := fun x y => placeLe names x y = true) (fun x y hx hy a b => ?_) ?_ (h1.imp fun h => by unfold placeLe; exact decide_eq_true (by omega)) ?_
  · have a1 := of_decide_eq_true a
    have b1 := of_decide_eq_true b
    have e : names.idxOf x.1 = names.idxOf y.1 := by omega
    have hx' : x ∈ c := hp.subset (List.mem_mergeSort.mp hx)
    obtain ⟨i, hi, ei⟩ := List.mem_iff_getElem.mp hx'
    obtain ⟨j, hj, ej⟩ := List.mem_iff_getElem.mp hy
    rw [List.pairwise_iff_getElem] at h1
    rcases Nat.lt_trichotomy i j with q | q | q
    · have := h1 i j hi hj q
      rw [ei, ej] at this
      omega
    · subst q
      rw [← ei, ← ej]
    · have := h1 j i hj hi q
      rw [ei, ej] at this
      omega
  · refine List.pairwise_mergeSort (fun x y z a b => ?_) (fun x y => ?_) _
    · have a1 := of_decide_eq_true a
      have b1 := of_decide_eq_true b
      exact decide_eq_true (by omega)
    · unfold placeLe
      by_cases q : ((names.idxOf x.1 : Nat) : Int) ≤ ((names.idxOf y.1 : Nat) : Int)
      · rw [decide_eq_true q]; rfl
      · rw [decide_eq_true (show ((names.idxOf y.1 : Nat) : Int) ≤ ((names.idxOf x.1 : Nat) : Int) by omega), Bool.or_true]
  · exact (List.mergeSort_perm _ _).trans hp
end Q1

set_option Elab.async false
set_option maxRecDepth 100000
set_option maxHeartbeats 4000000
namespace Q1
open PySem L2 LamX
theorem short_of_name {s : Str} (h : isNameS s = true) : s.length ≤ sizeLine := by
  unfold isNameS at h
  rw [Bool.and_eq_true, Bool.and_eq_true] at h
  have := of_decide_eq_true h.2.1
  exact Nat.le_trans this (by decide)
theorem short_hand {d : D} (h : d.isHand = true) : d.short := by
  cases d with
  | str s =>
    have h : (decide (s = "we") || decide (s = "they")) = true := h
    rcases Bool.or_eq_true_iff.mp h with e | e
    · rw [of_decide_eq_true e]
      show (("we" : Str)).length ≤ sizeLine
      decide
    · rw [of_decide_eq_true e]
      show (("they" : Str)).length ≤ sizeLine
      decide
  | _ => trivial
theorem marksIn_of {d : D} {qs : List (Str × D)} (h : IsMarks d qs) (hn : ∀ x ∈ qs.map Prod.fst, isNameS x = true) (hl : qs.length ≤ 1000) : MarksIn d := by
  obtain ⟨ds, h1, h2, h3, _⟩ := h
  have hlen := congrArg List.length h2
  rw [List.length_map, List.length_map] at hlen
  refine ⟨by unfold D.small; rw [h1]; show ds.length ≤ 1000; omega, fun es he x hx xs hxs y hy => ?_⟩
  rw [h1] at he
  cases he
  have m : x.items? ∈ qs.map (fun p => some [D.str p.1, p.2]) := by
    rw [← h2]
    exact List.mem_map_of_mem hx
  obtain ⟨p, hp, e⟩ := List.mem_map.mp m
  rw [hxs] at e
  cases Option.some.inj e
  have e2 : y = .str p.1 ∨ y = p.2 := by simpa using hy
  rcases e2 with rfl | rfl
  · exact short_of_name (hn p.1 (List.mem_map_of_mem hp))
  · exact short_hand (h3 p hp)
theorem looses_mem : ∀ {xs ys : List D} {y : D}, Looses xs ys → y ∈ ys → ∃ x ∈ xs, Loose x y
  | [], ys, y, h, m => by
    cases (show ys = [] from h)
    simp at m
  | x :: xs, ys, y, h, m => by
    obtain ⟨z, r, rfl, h1, h2⟩ := h
    rcases List.mem_cons.mp m with rfl | m
    · exact ⟨x, List.mem_cons_self, h1⟩
    · obtain ⟨u, hu, l⟩ := looses_mem h2 m
      exact ⟨u, List.mem_cons_of_mem _ hu, l⟩
theorem clausesIn_of {cs : List (List (Str × Bool))} {d : D} (h : Loose (clausesD cs) d) (hl : cs.length ≤ 1000) (hc : ∀ c ∈ cs, c.length ≤ 1000) : ClausesIn d := by
  obtain ⟨ds, h1, h2⟩ := h
  have hlen := h2.length
  rw [List.length_map] at hlen
  refine ⟨by unfold D.small; rw [h1]; show ds.length ≤ 1000; omega, fun es he x hx => ?_⟩
  rw [h1] at he
  cases he
  obtain ⟨u, hu, l⟩ := looses_mem h2 hx
  obtain ⟨c, hc2, rfl⟩ := List.mem_map.mp hu
  obtain ⟨xs, k1, k2⟩ := l
  have := k2.length
  rw [List.length_map] at this
  unfold D.small
  rw [k1]
  show xs.length ≤ 1000
  have := hc c hc2
  omega
end Q1

set_option Elab.async false
set_option maxRecDepth 100000
set_option maxHeartbeats 4000000
namespace Q1
open PySem L2 LamX
theorem qAt_congr {C q : Addr} {S : Addr → Prop} {H : Hp} {ps qs : List (Str × D)} {cw cg : List (List (Str × Bool))} (h1 : qs.map Prod.fst = ps.map Prod.fst) (h2 : qs.map (fun p => handD p.2) = ps.map (fun p => handD p.2)) (h : QAt C S H q qs cw cg) : QAt C S H q ps cw cg := by
  have h3 : qs.map (fun q => D.str q.1) = ps.map (fun q => D.str q.1) := by
    have := congrArg (List.map D.str) h1
    rw [List.map_map, List.map_map] at this
    exact this
  obtain ⟨dx, n, hA, p, wl, gl, wc, wt, gc, gt, a1, a2, a3, a4, a5, a6, a7, a8, a9, a10⟩ := h
  rw [h3] at a2
  rw [h2] at a3
  rw [h1] at a4 a7 a8 a9 a10
  exact ⟨dx, n, hA, p, wl, gl, wc, wt, gc, gt, a1, a2, a3, a4, a5, a6, a7, a8, a9, a10⟩
/-- clauses, the literals of each in another order -/
def Mx : List (List (Str × Bool)) → List (List (Str × Bool)) → Prop
  | [], ys => ys = []
  | x :: xs, ys => ∃ y r, ys = y :: r ∧ x.Perm y ∧ Mx xs r
theorem Mx.sort {names : List Str} (nd : names.Nodup) : ∀ {xs ys : List (List (Str × Bool))}, Mx xs ys → InOrd names ys → xs.map (sortLits names) = ys
  | [], _, h, _ => by cases h; rfl
  | x :: xs, _, h, io => by
    obtain ⟨y, r, rfl, hp, hm⟩ := h
    rw [List.map_cons, sort_back nd (io y List.mem_cons_self) hp, Mx.sort nd hm fun c hc => io c (List.mem_cons_of_mem _ hc)]
theorem Mx.cond {names : List Str} (nd : names.Nodup) : ∀ {xs ys : List (List (Str × Bool))}, Mx xs ys → InOrd names ys → ∀ c ∈ xs, ((∀ l ∈ c, l.1 ∈ names) ∧ (c.map Prod.fst).Nodup) ∧ c.length ≤ names.length
  | [], _, _, _, c, hc => by simp at hc
  | x :: xs, _, h, io, c, hc => by
    obtain ⟨y, r, rfl, hp, hm⟩ := h
    rcases List.mem_cons.mp hc with rfl | hc
    · have s := io y List.mem_cons_self
      have pm := hp.map Prod.fst
      refine ⟨⟨fun l hl => s.subset (pm.subset (List.mem_map_of_mem hl)), pm.symm.nodup (List.Sublist.nodup s nd)⟩, ?_⟩
      have := s.length_le
      rw [List.length_map] at this
      rw [hp.length_eq]
      exact this
    · exact Mx.cond nd hm (fun c hc => io c (List.mem_cons_of_mem _ hc)) c hc
theorem Mx.len : ∀ {xs ys : List (List (Str × Bool))}, Mx xs ys → xs.length = ys.length
  | [], _, h => by cases h; rfl
  | _ :: _, _, h => by
    obtain ⟨y, r, rfl, _, hm⟩ := h
    rw [List.length_cons, List.length_cons, Mx.len hm]
theorem Mx.refl : ∀ xs : List (List (Str × Bool)), Mx xs xs
  | [] => rfl
  | x :: xs => ⟨x, xs, rfl, .refl x, Mx.refl xs⟩
theorem map_uniq {α β : Type} {f : α → β} (hf : ∀ x y, f x = f y → x = y) : ∀ {a b : List α}, a.map f = b.map f → a = b
  | [], [], _ => rfl
  | [], _ :: _, h => by cases h
  | _ :: _, [], h => by cases h
  | x :: a, y :: b, h => by
    rw [List.map_cons, List.map_cons] at h
    injection h with h1 h2
    rw [hf x y h1, map_uniq hf h2]
theorem marks_uniq {d : D} {a b : List (Str × D)} (h : IsMarks d a) (k : IsMarks d b) : a = b := by
  obtain ⟨ds, h1, h2, _⟩ := h
  obtain ⟨es, k1, k2, _⟩ := k
  rw [h1] at k1
  cases k1
  refine map_uniq (f := fun p : Str × D => some [D.str p.1, p.2]) (fun x y e => ?_) (h2.symm.trans k2)
  have e := Option.some.inj e
  injection e with e1 e2
  injection e1 with e1
  injection e2 with e2
  exact Prod.ext e1 e2
theorem clauses_uniq {names : List Str} {d : D} {a b : List (List (Str × Bool))} (h : IsClauses names d a) (k : IsClauses names d b) : a = b := by
  obtain ⟨ds, h1, h2⟩ := h
  obtain ⟨es, k1, k2⟩ := k
  rw [h1] at k1
  cases k1
  exact map_uniq (f := some) (fun x y e => Option.some.inj e) (h2.symm.trans k2)
theorem mk_good {C C2 C3 C4 : Addr} {T : List (Addr × Str)} {H0 : Hp} {x dx : Addr} {m wi gu : V} {S : Addr → Prop} {dm dw dg : D} {ps : List (Str × D)} {cw cg cw' cg' : List (List (Str × Bool))} {Q : VK} {E : XK} (g : GoodQ ps cw cg) (nx : H0 x = none) (nd : H0 dx = none) (ne : dx ≠ x)
    (rm : Rep S H0 dm m) (rw_ : Rep S H0 dw wi) (rg : Rep S H0 dg gu) (lm : Loose (.lst (ps.map pairD)) dm) (lw : Loose (clausesD cw') dw) (lg : Loose (clausesD cg') dg) (mw : Mx cw' cw) (mg : Mx cg' cg) (t : Tabs T H0)
    (k : ∀ H', ExtN H0 H' → Tabs T H' → QAt C (NewN H0) H' x ps cw cg → Q .non H') : spInit C C2 C3 C4 T [.ref x, m, wi, gu] (upd (upd H0 dx (.own x)) x (.ins C dx [])) Q E := by
  obtain ⟨qs, q1, q2, q3, q4⟩ := isMarks_loose g lm
  have nd' := g.nd
  have cw1 := mw.cond nd' g.w
  have cg1 := mg.cond nd' g.g
  obtain ⟨w1, w2⟩ := isClauses_loose lw fun c hc => (cw1 c hc).1
  obtain ⟨g1, g2⟩ := isClauses_loose lg fun c hc => (cg1 c hc).1
  have hnl : (ps.map Prod.fst).length ≤ 13 := by rw [List.length_map]; exact g.pl
  have nx2 : upd H0 dx (.own x) x = none := by rw [upd_ne (Ne.symm ne)]; exact nx
  have ql : qs.length ≤ 1000 := by
    have := congrArg List.length q3
    rw [List.length_map, List.length_map] at this
    have := g.pl
    omega
  have lw1 := mw.len
  have lg1 := mg.len
  have glw := g.lw
  have glg := g.lg
  refine ⟨H0, x, dx, m, wi, gu, S, dm, dw, dg, rfl, (Same.new nd).trans (Same.new nx2), nx, upd_same, rm, rw_, rg, t, marksIn_of q1 (fun y hy => qNames_name y (g.nm y (by rw [← q3]; exact hy))) ql, clausesIn_of lw (by omega) (fun c hc => by have := (cw1 c hc).2; omega), clausesIn_of lg (by omega) (fun c hc => by have := (cg1 c hc).2; omega), ?_, ?_, ?_, ?_⟩
  · intro i hi
    rw [q2] at hi
    cases hi
  · intro ps2 i hp hi
    rw [marks_uniq hp q1, q3, w2] at hi
    cases hi
  · intro ps2 cw2 i hp hw hi
    rw [marks_uniq hp q1, q3, g2] at hi
    cases hi
  · intro ps2 cw2 cg2 hp hw hg H' e t' hq
    have e1 := marks_uniq hp q1
    subst e1
    rw [q3] at hw hg
    have e2 := clauses_uniq hw w1
    have e3 := clauses_uniq hg g1
    subst e2
    subst e3
    rw [q3, mw.sort nd' g.w, mg.sort nd' g.g] at hq
    exact k H' e t' (qAt_congr q3 q4 hq)
end Q1

set_option Elab.async false
set_option maxRecDepth 100000
set_option maxHeartbeats 4000000
namespace Q1
open PySem L2 LamX
/-- all stays but the stream and the tables that grow -/
def ExtS (s : Addr) (H H' : Hp) : Prop := ∀ a o, a ≠ s → H a = some o → (∀ ps, o ≠ .tbl ps) → H' a = some o
theorem ExtS.of {s : Addr} {H H' : Hp} (h : SameS s H H') : ExtS s H H' := fun a o n e _ => h a o n e
theorem ExtS.ofN {s : Addr} {H H' : Hp} (h : ExtN H H') : ExtS s H H' := fun a o _ e t => h a o e t
theorem ExtS.trans {s : Addr} {H H1 H2 : Hp} (a : ExtS s H H1) (b : ExtS s H1 H2) : ExtS s H H2 := fun x o n e t => b x o n (a x o n e t) t
theorem Mx.snoc : ∀ {xs ys : List (List (Str × Bool))} {x y : List (Str × Bool)}, Mx xs ys → x.Perm y → Mx (xs ++ [x]) (ys ++ [y])
  | [], _, x, y, h, k => by cases h; exact ⟨y, [], rfl, k, rfl⟩
  | _ :: _, _, x, y, h, k => by
    obtain ⟨z, r, rfl, h1, h2⟩ := h
    exact ⟨z, r ++ [y], rfl, h1, Mx.snoc h2 k⟩
theorem lits_sz : ∀ c : List (Str × Bool), szs (c.map litD) = 3 * c.length
  | [] => rfl
  | l :: c => by
    show 3 + szs (c.map litD) = 3 * (c.length + 1)
    rw [lits_sz c]
    omega
theorem clauses_sz : ∀ {cs : List (List (Str × Bool))}, (∀ c ∈ cs, c.length ≤ 13) → szs (cs.map litsD) ≤ 40 * cs.length
  | [], _ => Nat.le_refl _
  | c :: cs, h => by
    show (szs (c.map litD) + 1) + szs (cs.map litsD) ≤ 40 * (cs.length + 1)
    rw [lits_sz]
    have := h c List.mem_cons_self
    have := clauses_sz fun x hx => h x (List.mem_cons_of_mem c hx)
    omega
theorem inOrd_len {names : List Str} {cs : List (List (Str × Bool))} (h : InOrd names cs) (hn : names.length ≤ 13) : ∀ c ∈ cs, c.length ≤ 13 := fun c hc => by
  have := (h c hc).length_le
  rw [List.length_map] at this
  omega
theorem tabs_sameS {T : List (Addr × Str)} {s : Addr} {H H' : Hp} {u : List V} (h : SameS s H H') (hs : H s = some (.lst u)) (t : Tabs T H) : Tabs T H' := fun x hx => by
  obtain ⟨ps, a1, a2, a3⟩ := t x hx
  refine ⟨ps, h _ _ (fun z => by rw [z, hs] at a1; cases a1) a1, a2, fun pos cv hc => ?_⟩
  obtain ⟨c, b1, b2⟩ := a3 pos cv hc
  exact ⟨c, b1, h _ _ (fun z => by rw [z, hs] at b2; unfold CodeO at b2; cases b2) b2⟩
theorem pairs_sz {ps : List (Str × D)} (h : ∀ p ∈ ps, p.2 ∈ qHands) : szs (ps.map pairD) ≤ 6 * ps.length := by
  induction ps with
  | nil => exact Nat.le_refl _
  | cons p ps ih =>
    have hp := h p List.mem_cons_self
    have h2 : (handD p.2).sz ≤ 3 := by
      rw [(qHands_ok hp).2.1]
      simp only [qHands, List.mem_cons, List.not_mem_nil, or_false] at hp
      rcases hp with e | e | e | e | e | e | e | e <;> rw [e] <;> decide +kernel
    show (1 + ((handD p.2).sz + 0) + 1) + szs (ps.map pairD) ≤ 6 * (ps.length + 1)
    have := ih fun q hq => h q (List.mem_cons_of_mem _ hq)
    omega
end Q1

set_option Elab.async false
set_option maxRecDepth 100000
set_option maxHeartbeats 4000000
namespace Q1
open PySem L2 LamX
theorem qAt_mono {C q : Addr} {S S' : Addr → Prop} {H : Hp} {ps : List (Str × D)} {cw cg : List (List (Str × Bool))} (hS : ∀ b, S b → S' b) (h : QAt C S H q ps cw cg) : QAt C S' H q ps cw cg := by
  obtain ⟨dx, n, hA, p, wl, gl, wc, wt, gc, gt, a1, a2, a3, a4, a5, a6, a7, a8, a9, a10⟩ := h
  have w : ∀ {d : D} {v : V}, Rep S H d v → Rep S' H d v := fun r => Rep.mono hS (fun _ _ e _ => e) r
  exact ⟨dx, n, hA, p, wl, gl, wc, wt, gc, gt, a1, w a2, w a3, a4, w a5, w a6, w a7, w a8, w a9, w a10⟩
theorem newN_back {a b : Addr} {H H' : Hp} {n : Nat} (s : SameS a H H') (t : Strm H' a n) (e : NewN H' b) : NewN H b := fun o q => by
  by_cases z : b = a
  · obtain ⟨u, hu⟩ := t.lst
    obtain ⟨ps, h⟩ := e _ (z ▸ hu)
    cases h
  · exact e o (s b o z q)
theorem strm_extN {a : Addr} {H H' : Hp} {n : Nat} (t : Strm H a n) (e : ExtN H H') : Strm H' a n := by
  obtain ⟨c, m, k, h1, h2⟩ := t
  exact ⟨c, m, k, e _ _ h1 (fun _ z => nomatch z), h2⟩
section
variable {P : Program} {w : World} {K : PySem.W.Frag} {mg : Str → Option Value} {base : Heap}
/-! ### _law_q_made -/
abbrev sMade : Stmt := top 38
abbrev nMade : List Str := ["stream", "question", "both", "clauses", "clause"]
theorem scMade : FnScope nMade ["stream", "question"] (defScope sMade) := ⟨rfl, rfl, rfl, by decide +kernel, rfl, by decide +kernel, by decide +kernel⟩
/-- the class Question, whole -/
structure Qw (K : PySem.W.Frag) (mg : Str → Option Value) where
  Z : Qc K mg
  Y : Pk K mg
  Cc : Cs mg
  fi : Addr
  fdi : FuncData
  F : Fun K "__init__" "Question.__init__" sInit fi fdi
  bi : Binds K fdi ["self", "marks", "wishes", "guards"] []
  M : Mk K Z.C fi
/-- the table of in_marks_order's lambda -/
structure Tq (base : Heap) (T : List (Addr × Str)) {K : PySem.W.Frag} {mg : Str → Option Value} (W : Qw K mg) : Prop where
  TB : TabB base mg W.Y.ord.c W.Y.ord.t
  hm : (W.Y.ord.t, ("in_marks_order.<locals>.<lambda>" : Str)) ∈ T
  hu : ∀ p ∈ T, p.1 = W.Y.ord.t → p.2 = "in_marks_order.<locals>.<lambda>"
def spMade (C : Addr) (T : List (Addr × Str)) : Sp := fun vs H Q _ => ∃ (S : Addr → Prop) (s r : Addr) (n : Nat) (ps : List (Str × D)) (cw cg : List (List (Str × Bool))), vs = [.ref s, .ref r] ∧ Strm H s n ∧ n + 5000 < LIM ∧ Rep S H (qD ps cw cg) (.ref r) ∧ ¬ S s ∧ GoodQ ps cw cg ∧ Tabs T H ∧
  ∀ H' x, ExtS s H H' → Tabs T H' → QAt C (NewN H) H' x ps cw cg → NewN H x → Strm H' s (n + 5000) → Q (.ref x) H'
theorem ok_made {T : List (Addr × Str)} (B : Bt mg) (W : Qw K mg) (TT : Tq base T W) (N : Dn K mg "_law_q_made" sMade ["stream", "question"]) (NL : Dn K mg "_law_q_loose" sLoose ["stream", "thing"]) (NM : Dn K mg "_law_mixed" sMixed ["stream", "some"]) (ND : Dn K mg "_law_draw" sDraw ["stream", "many"]) :
    FnOk P w K mg base CX0 7 N.f N.fd ["stream", "question"] (spMade W.Z.C T) := by
  have GL : FnOk P w K mg base CX0 6 NL.f NL.fd ["stream", "thing"] (spLoose 4) := ok_loose B NL ND 4
  have GM : FnOk P w K mg base CX0 2 NM.f NM.fd ["stream", "some"] (spMixed K) := ok_mixed B NM ND
  have GI : FnOk P w K mg base (L2.CX P w) 5 W.fi W.fdi ["self", "marks", "wishes", "guards"] (spInit W.Z.C W.Y.e2.C W.Y.e3.C W.Y.e4.C T) := ok_init B W.Cc W.Z W.Y W.F TT.TB TT.hm TT.hu
  refine N.F.ok scMade (fun vs H Q E h => ?_) (fun cdv A outer s H vs Q E hr h => ?_)
  · obtain ⟨S, s, r, n, ps, cw, cg, rfl, _⟩ := h
    rfl
  · obtain ⟨S, a, r, n, ps, cw, cg, rfl, hs, hn, hq, hS, g, t0, k⟩ := h
    refine ⟨_, pss_cons (ps_set (i := 2) scMade.nd rfl (Or.inl rfl) (pe_lst pa_nil))
      (pss_cons (ps_for PassesOwn.never rfl (pi_tup (pe_slice sl_tup (pv 1) (po_some pe_int) po_none)) (pg_name (i := 3) scMade.nd rfl (Or.inl rfl))
        (pss_one (ps_expr (pe_bm PySem.F.plainAttrs_list PySem.F.slot_list_append PySem.F.type_list_append mt_append (pv 2) (pa_cons (pe_call GL hr (by rfl) NL.g NL.F.kp NL.b .nil pass0 (pa_cons (pv 0) (pa_cons
          (pe_lc (own := [("clause", 4)]) (g := gName 4) (tt := tYes) (te := tCall (spMixed K) [] E0 (tCons (tVar 0) (tCons (tVar 4) tNil))) rfl scMade.nd (pi_list (pv 3)) (blkOk_by (own := [("clause", 4)]) (N := nMade) (sc := defScope sMade) (by decide +kernel)) (fun _ _ _ _ _ => pg_name (i := 4) scMade.nd rfl (Or.inl rfl)) (fun _ _ _ _ _ => pts_nil)
            (fun _ _ _ _ _ => pe_call GM (hr.mono (by decide)) (by rfl) NM.g NM.F.kp NM.b .nil pass0 (pa_cons (pv 0) (pa_cons (pv 4) pa_nil)))) pa_nil))) pa_nil)))))
      (pss_one (ps_ret (pe_make W.M GI hr (by rfl) W.Z.g W.bi .nil passL (pa_cons (pe_call GL hr (by rfl) NL.g NL.F.kp NL.b .nil pass0 (pa_cons (pv 0) (pa_cons (pe_ix ix_tup (pv 1) pe_int (fun _ _ => rfl)) pa_nil))) (pa_cons (pe_ix ix_list (pv 2) pe_int (fun _ _ => rfl)) (pa_cons (pe_ix ix_list (pv 2) pe_int (fun _ _ => rfl)) pa_nil))))))), ?_⟩
    obtain ⟨_, _, er, hr0, m, _, rfl, rm, wv, _, rfl, rw1, gv, _, rfl, rg1, rfl⟩ := hq
    cases er
    obtain ⟨u0, hu0⟩ := hs.lst
    have nra : r ≠ a := fun z => by rw [z, hu0] at hr0; cases hr0
    have hnl : (ps.map Prod.fst).length ≤ 13 := by rw [List.length_map]; exact g.pl
    refine ⟨Nat.zero_le _, fun b hb => ?_⟩
    have nba : b ≠ a := fun z => by rw [z, hu0] at hb; cases hb
    have s1 : Same H (upd H b (.lst [])) := Same.new hb
    have hb1 : upd H b (.lst []) b = some (.lst []) := upd_same
    generalize upd H b (.lst []) = H1 at s1 hb1 ⊢
    refine ⟨_, rfl, 1, rfl, r, _, rfl, SqT.of (s1 _ _ hr0), (fun z => (show ¬ (HT.sIx 3 0 (some 1) = 0) by decide) z.1), fun p hp => ?_⟩
    rw [show cutV [m, wv, gv] (some 1) none = [wv, gv] from rfl]
    have s2 : Same H1 (upd H1 p (.tup [wv, gv])) := Same.new hp
    have hp2 : upd H1 p (.tup [wv, gv]) p = some (.tup [wv, gv]) := upd_same
    have npb : p ≠ b := fun z => by rw [z, hb1] at hp; cases hp
    generalize upd H1 p (.tup [wv, gv]) = H2 at s2 hp2 ⊢
    have npa : p ≠ a := fun z => by
      have := (s1.trans s2) _ _ hu0
      rw [z, this] at hp2
      cases hp2
    refine ⟨p, rfl, ⟨_, SqT.of hp2⟩, for_it (walk_tup (K := K) (a := p) (xs := [wv, gv])) (fun i σ H' => (∃ o3 o4, σ = [some (.ref a), some (.ref r), some (.ref b), o3, o4]) ∧ SameS a H H' ∧ H' p = some (.tup [wv, gv]) ∧ ∃ (vs : List V) (es : List D), H' b = some (.lst vs) ∧ Reps (fun x => H x = none ∧ x ≠ b) H' es vs ∧ es.length = i ∧
      (∀ (j : Nat) (e : D), es[j]? = some e → ∃ cs cs', [cw, cg][j]? = some cs ∧ Mx cs' cs ∧ Loose (clausesD cs') e) ∧ Strm H' a (n + 1500 * i)) ?_ (fun i σ H' _ x => SqT.of x.2.2.1) ?_ ?_⟩
    · exact ⟨⟨_, _, rfl⟩, SameS.of (s1.trans s2), hp2, [], [], s2 _ _ hb1, rfl, rfl, fun j e h => by simp at h, hs.same (s1.trans s2)⟩
    · rintro i x σ _ H3 hi ⟨⟨o3, o4, rfl⟩, sm3, hp3, vs, es, hb3, hr3, hl3, hc3, hs3⟩ ⟨rfl, hx⟩
      obtain ⟨cs, hcs, rcs, ios, lcs⟩ : ∃ cs, [cw, cg][i]? = some cs ∧ Rep S H (clausesD cs) x ∧ InOrd (ps.map Prod.fst) cs ∧ cs.length ≤ 22 := by
        match i, hx with
        | 0, hx => cases (show some wv = some x from hx); exact ⟨cw, rfl, rw1, g.w, g.lw⟩
        | 1, hx => cases (show some gv = some x from hx); exact ⟨cg, rfl, rg1, g.g, g.lg⟩
        | i + 2, hx => simp at hx
      have hi2 : i < 2 := hi
      have ils := inOrd_len ios hnl
      obtain ⟨cl, us, rfl, scl, hcl, rus⟩ := sameS_rep sm3 hs hS rcs
      have nca : cl ≠ a := fun z => hS (z ▸ scl)
      have hul : us.length = cs.length := by rw [rus.length, List.length_map]
      have nS : ¬ (fun x => H x = none ∧ x ≠ b) a := fun z => by
        have z1 : H a = none := z.1
        rw [hu0] at z1
        cases z1
      refine ⟨_, rfl, .inl ⟨rfl, _, SqL.of hb3⟩, _, rfl, _, rfl, cl, rfl, ⟨_, SqL.of hcl⟩, fun D0 hD => ?_⟩
      have nDa : D0 ≠ a := fun z => by
        obtain ⟨u3, hu3⟩ := hs3.lst
        rw [z, hu3] at hD
        cases hD
      have nDb : D0 ≠ b := fun z => by rw [z, hb3] at hD; cases hD
      have hDH := sameS_back sm3 hs3 hD
      refine lc_list (K := K) (a := cl) (xs := us) (fun i2 H' => SameS a H3 H' ∧ ∃ (zs : List V) (cs' : List (List (Str × Bool))), H' D0 = some (.lst zs) ∧ Reps (fun x => H x = none ∧ x ≠ b ∧ x ≠ D0) H' (cs'.map litsD) zs ∧ Mx cs' (cs.take i2) ∧ Strm H' a (n + 1500 * i + 13 * i2))
        ⟨(SameS.refl H3).new hD, [], [], upd_same, rfl, rfl, hs3.same (Same.new hD)⟩ (fun i2 H' _ y => SqL.of (y.1 _ _ nca hcl)) ?_ ?_
      · rintro i2 v H4 hv ⟨sm4, zs, cs', hz, rz, mz, hs4⟩
        obtain ⟨dv, hdv, hrv⟩ := (sameS_reps sm4 hs3 hS rus).get hv
        rw [List.getElem?_map] at hdv
        have hlt : i2 < us.length := (List.getElem?_eq_some_iff.mp hv).1
        cases hcc : cs[i2]? with
        | none => rw [hcc] at hdv; cases hdv
        | some c =>
          rw [hcc] at hdv
          cases hdv
          obtain ⟨q, ts, rfl, sq, hq4, rts⟩ := hrv
          have hcm := List.mem_of_getElem? hcc
          have hc13 := ils c hcm
          have htl := rts.length
          rw [List.length_map] at htl
          refine ⟨rfl, ?_⟩
          refine ⟨_, rfl, _, rfl, S, a, q, n + 1500 * i + 13 * i2, ts, c.map litD, rfl, hs4, by omega, .inl (SqL.of hq4), rts, hS, ?_, by omega, fun H5 rr ys sm5 perm hr5 hy5 hs5 => ?_⟩
          · exact oks_mem fun d hd => by
              obtain ⟨l, hl, rfl⟩ := List.mem_map.mp hd
              exact ⟨ok_str (qNames_ok _ (g.nm _ ((ios c hcm).subset (List.mem_map_of_mem hl)))), trivial, trivial⟩
          have hz5 := sm5 D0 _ nDa hz
          have n0 : ¬ (fun x => H x = none ∧ x ≠ b ∧ x ≠ D0) a := fun z => by
            have z1 : H a = none := z.1
            rw [hu0] at z1
            cases z1
          have st : ∀ o, Stay (fun x => H x = none ∧ x ≠ b ∧ x ≠ D0) H5 (upd H5 D0 o) := fun o => stay_upd hz5 (nd_lst fun z => z.2.2 rfl)
          have hzl := rz.length
          rw [List.length_map] at hzl
          have hml := mz.len
          rw [List.length_take] at hml
          obtain ⟨fs, hf, rf⟩ := reps_perm perm (Reps.free (S' := fun _ => False) (sameS_reps sm5 hs4 hS rts) (litsD_free c))
          obtain ⟨c', hc', rfl⟩ := perm_map_inv hf rfl
          have hrr : H rr = none := sameS_back (sm3.trans sm4) hs4 hr5
          have nrb : rr ≠ b := fun z => by
            have := sm4 _ _ nba hb3
            rw [← z, hr5] at this
            cases this
          have nrD : rr ≠ D0 := fun z => by rw [z, hz] at hr5; cases hr5
          refine ⟨zs, hz5, Nat.lt_of_lt_of_le (show zs.length < 1000 by omega) (by decide), (sm4.trans sm5).at hD, zs ++ [.ref rr], cs' ++ [c'], upd_same, ?_, ?_, ?_⟩
          · rw [List.map_append]
            refine Reps.append (Reps.mono (fun _ z => z) (st _) (sameS_reps sm5 hs4 n0 rz)) (Reps.one (Rep.mono (fun _ z => z) (st _) ⟨rr, ys, rfl, ⟨hrr, nrb, nrD⟩, hy5, Reps.mono (fun _ z => z.elim) (fun _ _ e _ => e) rf⟩))
          · rw [List.take_add_one, hcc]
            exact mz.snoc hc'
          · exact (hs5.mono (by omega)).at nDa
      · rintro H4 ⟨sm4, zs, cs', hz, rz, mz, hs4⟩
        rw [hul, List.take_length] at mz
        rw [hul] at hs4
        have mc := mz.cond g.nd ios
        have hcl2 := mz.len
        have hsz : szs (cs'.map litsD) ≤ 40 * cs'.length := clauses_sz fun c hc => Nat.le_trans (mc c hc).2 hnl
        have hszD : (clausesD cs').sz = szs (cs'.map litsD) + 1 := rfl
        refine ⟨fun x => H x = none, a, n + 1500 * i + 13 * cs.length, clausesD cs', .ref D0, rfl, hs4, by omega, by omega, ⟨D0, zs, rfl, hDH, hz, Reps.mono (fun _ z => z.1) (fun _ _ e _ => e) rz⟩, (fun z => by
          have z1 : H a = none := z
          rw [hu0] at z1
          cases z1), oks_mem (fun d hd => by
            obtain ⟨c, hc, rfl⟩ := List.mem_map.mp hd
            exact lits_ok fun l hl => qNames_ok _ (g.nm _ ((mc c hc).1.1 l hl))), fun H5 v' e sm5 re le hs5 => ?_⟩
        have hb5 := sm5 b _ nba (sm4 b _ nba hb3)
        have hvl := hr3.length
        have st : ∀ o, Stay (fun x => H x = none ∧ x ≠ b) H5 (upd H5 b o) := fun o => stay_upd hb5 (nd_lst fun z => z.2 rfl)
        refine ⟨b, vs, v', rfl, rfl, hb5, Nat.lt_of_lt_of_le (show vs.length < 1000 by omega) (by decide), ⟨_, _, rfl⟩, (sm3.trans (sm4.trans sm5)).at hb, by rw [upd_ne npb]; exact sm5 p _ npa (sm4 p _ npa hp3), vs ++ [v'], es ++ [e], upd_same, ?_, by rw [List.length_append, hl3]; rfl, ?_, ?_⟩
        · refine Reps.append (Reps.mono (fun _ z => z) (st _) (sameS_reps (sm4.trans sm5) hs3 nS hr3)) (Reps.one (Rep.mono (fun _ z => z) (st _) (Rep.mono (fun y z => ⟨?_, fun q => ?_⟩) (fun _ _ e _ => e) re)))
          · exact sameS_back (sm3.trans sm4) hs4 z
          · have z1 : H4 y = none := z
            rw [q, sm4 b _ nba hb3] at z1
            cases z1
        · intro j e2 he2
          by_cases hj : j < es.length
          · rw [List.getElem?_append_left hj] at he2
            exact hc3 j e2 he2
          · rw [List.getElem?_append_right (by omega)] at he2
            have z : j - es.length = 0 := by
              cases q : j - es.length with
              | zero => rfl
              | succ y => rw [q] at he2; cases he2
            rw [z] at he2
            cases (show some e = some e2 from he2)
            have : j = i := by omega
            subst this
            exact ⟨cs, cs', hcs, mz, le⟩
        · exact (hs5.mono (by omega)).at nba
    · rintro σ H3 ⟨⟨o3, o4, rfl⟩, sm3, hp3, vs, es, hb3, hr3, hl3, hc3, hs3⟩
      have hvl := hr3.length
      match es, vs, hl3, hvl, hb3, hr3, hc3 with
      | [e0, e1], [v0, v1], _, _, hb3, hr3, hc3 =>
        obtain ⟨_, _, q0, r0, _, _, q1, r1, _⟩ := hr3
        cases q0
        cases q1
        obtain ⟨cs0, cw', hcs0, mw, lw⟩ := hc3 0 e0 rfl
        obtain ⟨cs1, cg', hcs1, mg', lg⟩ := hc3 1 e1 rfl
        cases (show some cw = some cs0 from hcs0)
        cases (show some cg = some cs1 from hcs1)
        have hs3 : Strm H3 a (n + 3000) := hs3
        have hr3' := sm3 _ _ nra hr0
        have psz := pairs_sz g.hd
        have gpl := g.pl
        have hszM : (D.lst (ps.map pairD)).sz = szs (ps.map pairD) + 1 := rfl
        refine ⟨_, rfl, _, rfl, r, _, 0, m, rfl, rfl, SqT.of hr3', atI_nat (j := 0) rfl, S, a, n + 3000, .lst (ps.map pairD), m, rfl, hs3, by omega, by omega, sameS_rep sm3 hs hS rm, hS, oks_mem (fun d hd => ?_), fun H4 v' e sm4 re le hs4 => ?_⟩
        · obtain ⟨q, hq, rfl⟩ := List.mem_map.mp hd
          have hh := qHands_ok (g.hd q hq)
          refine ⟨ok_str (qNames_ok _ (g.nm _ (List.mem_map_of_mem hq))), ?_, trivial⟩
          have hq2 := g.hd q hq
          rw [hh.2.1]
          simp only [qHands, List.mem_cons, List.not_mem_nil, or_false] at hq2
          rcases hq2 with e | e | e | e | e | e | e | e <;> rw [e] <;> first | exact ⟨trivial, trivial, trivial⟩ | exact ok_str (by decide +kernel)
        have hb4 := sm4 b _ nba hb3
        have nS : ¬ (fun x => H x = none ∧ x ≠ b) a := fun z => by
          have z1 : H a = none := z.1
          rw [hu0] at z1
          cases z1
        refine ⟨_, rfl, b, _, 0, v0, rfl, rfl, SqL.of hb4, atI_nat (j := 0) rfl, _, rfl, b, _, 1, v1, rfl, rfl, SqL.of hb4, atI_nat (j := 1) rfl, fun x dx nx ndx ne => ?_⟩
        have sm34 := sm3.trans sm4
        refine mk_good (S := fun _ => True) g nx ndx ne (Rep.mono (fun _ _ => trivial) (fun _ _ e _ => e) re) (Rep.mono (fun _ _ => trivial) (fun _ _ e _ => e) (sameS_rep sm4 hs3 nS r0)) (Rep.mono (fun _ _ => trivial) (fun _ _ e _ => e) (sameS_rep sm4 hs3 nS r1)) le lw lg mw mg' (tabs_sameS sm34 hu0 t0) fun H' eN t' qa => ⟨rfl, ?_⟩
        refine k H' x ((ExtS.of sm34).trans (ExtS.ofN eN)) t' (qAt_mono (fun y hy => newN_back sm34 hs4 hy) qa) (fun o q => ?_) (strm_extN (hs4.mono (by omega)) eN)
        rw [sameS_back sm34 hs4 nx] at q
        cases q
end
end Q1

set_option Elab.async false
set_option maxRecDepth 100000
set_option maxHeartbeats 4000000
namespace Q1
open PySem L2 LamX
theorem walk_zipT' {K : PySem.W.Frag} {a b : Addr} {xs ys : List V} (hn : ys.length = xs.length) : Walk (RZ.ItzT K a b) xs.length (fun H => SqT K H a xs ∧ SqT K H b ys) (YPair (fun i => xs[i]?) (fun i => ys[i]?)) := by
  refine ⟨fun i _ hi q => ⟨xs, ys, xs[i], ys[i]'(by omega), q.1, q.2, by simp, by simp⟩, fun _ q => ⟨xs, ys, q.1, q.2, .inl (Nat.le_refl _)⟩, fun i H v H' _ q y => ?_⟩
  obtain ⟨T, x, z, h1, h2, h3, h4, h5⟩ := y
  exact ⟨T, x, z, h1, h2, h3, h4 xs q.1, h5 ys q.2⟩
theorem seqT_same {K : PySem.W.Frag} {l : Addr} {H H' : Hp} {xs : List V} (h : Same H H') (q : SqT K H l xs) : SqT K H' l xs := by
  rcases q with (q | ⟨o, q⟩) | q
  · exact .inl (.inl (h l _ q))
  · exact .inl (.inr ⟨o, h l _ q⟩)
  · exact .inr q
mutual
theorem eqv_refl : ∀ {n : Nat} {d : D}, d.ok n → PyData.eqv d.py d.py = true
  | _, .non, _ => rfl
  | _, .bl b, _ => by show (b == b) = true; exact beq_self_eq_true b
  | _, .int i, _ => by show (i == i) = true; exact beq_self_eq_true i
  | _, .str s, _ => by show (s == s) = true; exact beq_self_eq_true s
  | _, .dic, k => by simp only [D.ok] at k
  | 0, .lst _, k => k.elim
  | 0, .tup _, k => k.elim
  | n + 1, .lst xs, k => eqvAll_refl (n := n) (ds := xs) k
  | n + 1, .tup xs, k => eqvAll_refl (n := n) (ds := xs) k
theorem eqvAll_refl : ∀ {n : Nat} {ds : List D}, oks n ds → PyData.eqvAll (pys ds) (pys ds) = true
  | _, [], _ => rfl
  | _, d :: ds, k => by
    show (PyData.eqv d.py d.py && PyData.eqvAll (pys ds) (pys ds)) = true
    rw [eqv_refl k.1, eqvAll_refl k.2]
    rfl
end
theorem kit_four {K : PySem.W.Frag} (d : D) : PySem.W.kitAny K (.type d.ty) [.type "int", .type "list", .type "tuple", .type "dict"] = some (d.isInt || (d.isLst || (d.isTup || d.isDic))) := by
  unfold PySem.W.kitAny
  rw [kit_int]
  cases d.isInt with
  | true => rfl
  | false =>
    show PySem.W.kitAny K _ [.type "list", .type "tuple", .type "dict"] = _
    unfold PySem.W.kitAny
    rw [kit_lst]
    cases d.isLst with
    | true => rfl
    | false =>
      show PySem.W.kitAny K _ [.type "tuple", .type "dict"] = _
      unfold PySem.W.kitAny
      rw [kit_tup]
      cases d.isTup with
      | true => rfl
      | false =>
        show PySem.W.kitAny K _ [.type "dict"] = _
        unfold PySem.W.kitAny
        rw [kit_dic]
        cases d.isDic <;> rfl
theorem szs_mem : ∀ {ds : List D} {d : D}, d ∈ ds → d.sz ≤ szs ds
  | [], _, h => by simp at h
  | x :: ds, d, h => by
    show d.sz ≤ x.sz + szs ds
    rcases List.mem_cons.mp h with rfl | h
    · omega
    · have := szs_mem h
      omega
theorem leaf_ok {n : Nat} {d : D} (h : d.items? = none) (k : d.ok n) : d.ok 0 ∧ d.isDic = false ∧ d.isLst = false ∧ d.isTup = false := by
  cases d with
  | lst xs => cases h
  | tup xs => cases h
  | dic => simp only [D.ok] at k
  | str s => exact ⟨ok_str (strOk_of k), rfl, rfl, rfl⟩
  | non => exact ⟨by simp only [D.ok], rfl, rfl, rfl⟩
  | bl b => exact ⟨by simp only [D.ok], rfl, rfl, rfl⟩
  | int i => exact ⟨by simp only [D.ok], rfl, rfl, rfl⟩
/-- what is never come to -/
theorem pss_never {X : Cx} {st : List Stmt} : PSs X st (fun _ _ _ => False) := ⟨fun _ _ _ _ _ _ h => h.elim⟩
section
variable {P : Program} {w : World} {K : PySem.W.Frag} {mg : Str → Option Value} {base : Heap}
/-! ### _law_same -/
abbrev sSame : Stmt := top 30
abbrev nSame : List Str := ["found", "wanted", "x", "y"]
theorem scSame : FnScope nSame ["found", "wanted"] (defScope sSame) := ⟨rfl, rfl, rfl, by decide +kernel, rfl, by decide +kernel, by decide +kernel⟩
def spSame : Nat → Sp
  | 0 => fun _ _ _ _ => False
  | n + 1 => fun vs H Q _ => ∃ (S S2 : Addr → Prop) (d : D) (v u : V), vs = [v, u] ∧ Rep S H d v ∧ Rep S2 H d u ∧ d.ok n ∧ d.sz ≤ 1000000 ∧ ∀ H', Same H H' → Q (.bl true) H'
theorem ok_same (B : Bt mg) (N : Dn K mg "_law_same" sSame ["found", "wanted"]) : ∀ n, FnOk P w K mg base CX0 (n + 1) N.f N.fd ["found", "wanted"] (spSame n)
  | 0 => ⟨fun vs H Q E h => h.elim, fun A outer s H args us vs Q E hr he hb hv hs => hs.elim⟩
  | n + 1 => by
    have GR : FnOk P w K mg base CX0 (n + 1) N.f N.fd ["found", "wanted"] (spSame n) := ok_same B N n
    refine N.F.ok scSame (fun vs H Q E h => ?_) (fun cdv A outer s H vs Q E hr h => ?_)
    · obtain ⟨S, S2, d, v, u, rfl, _⟩ := h
      rfl
    · obtain ⟨S, S2, d, v, u, rfl, hv, hu, hok, hsz, k⟩ := h
      refine ⟨_, pss_cons (ps_if (pt_val (pe_callB call_isiT (by rfl) B.isi PyProof.Rows.boot_isinstance (pa_cons (pv 1) (pa_cons (pe_tup (pa_cons (gt B.lst PyProof.Rows.boot_list) (pa_cons (gt B.tup PyProof.Rows.boot_tuple) pa_nil))) pa_nil))) (fun _ => rfl))
          (pss_cons (ps_if (PW.pt (pw_or (pt_cmpR op_ne (pe_callB call_isi (by rfl) B.isi PyProof.Rows.boot_isinstance (pa_cons (pv 0) (pa_cons (gt B.lst PyProof.Rows.boot_list) pa_nil))) (pe_callB call_isi (by rfl) B.isi PyProof.Rows.boot_isinstance (pa_cons (pv 1) (pa_cons (gt B.lst PyProof.Rows.boot_list) pa_nil))) (nomark _))
              (pw_or1 (pt_cmpR op_ne (pe_callB call_isi (by rfl) B.isi PyProof.Rows.boot_isinstance (pa_cons (pv 0) (pa_cons (gt B.tup PyProof.Rows.boot_tuple) pa_nil))) (pe_callB call_isi (by rfl) B.isi PyProof.Rows.boot_isinstance (pa_cons (pv 1) (pa_cons (gt B.tup PyProof.Rows.boot_tuple) pa_nil))) (nomark _))))) pss_never pss_nil)
          (pss_one (ps_ret (pe_and (pe_cmpR op_eq (pe_callB call_len_seq (by rfl) B.len boot_len (pa_cons (pv 0) pa_nil)) (pe_callB call_len_seq (by rfl) B.len boot_len (pa_cons (pv 1) pa_nil)) (nomark _))
            (pe_one (pe_callB (cr_all rfl) (by rfl) B.all PyProof.Rows.boot_all (pa_cons
              (pe_lc (own := [("x", 2), ("y", 3)]) (g := gTup K 2 (gCons (gName 2) (gCons (gName 3) gNil))) (tt := tYes) (te := tCall (spSame n) [] E0 (tCons (tVar 2) (tCons (tVar 3) tNil))) rfl scSame.nd (RZ.pi_zipA (by rfl) B.zip (pa_cons (pv 0) (pa_cons (pv 1) pa_nil))) (blkOk_by (own := [("x", 2), ("y", 3)]) (N := nSame) (sc := defScope sSame) (by decide +kernel))
                (fun _ _ _ _ _ => pg_tup (by rfl) (pgs_cons (pg_name (i := 2) scSame.nd (by rfl) (Or.inl (by rfl)) (by exact .inr rfl)) (pgs_cons (pg_name (i := 3) scSame.nd (by rfl) (Or.inl (by rfl)) (by exact .inr rfl)) pgs_nil))) (fun _ _ _ _ _ => pts_nil)
                (fun _ _ _ _ _ => pe_call GR hr (by rfl) N.g N.F.kp N.b .nil pass0 (pa_cons (pv 2) (pa_cons (pv 3) pa_nil)))) pa_nil))))))) pss_nil)
        (pss_cons (ps_if (pt_val (pe_callB call_isi (by rfl) B.isi PyProof.Rows.boot_isinstance (pa_cons (pv 1) (pa_cons (gt B.dict PyProof.Rows.boot_dict) pa_nil))) (fun _ => rfl)) pss_never pss_nil)
        (pss_cons (ps_if (pt_val (pe_callB call_isi (by rfl) B.isi PyProof.Rows.boot_isinstance (pa_cons (pv 1) (pa_cons (gt B.int PyProof.Rows.boot_int) pa_nil))) (fun _ => rfl))
          (pss_one (ps_ret (pe_and (pe_callB call_isi (by rfl) B.isi PyProof.Rows.boot_isinstance (pa_cons (pv 0) (pa_cons (gt B.int PyProof.Rows.boot_int) pa_nil)))
            (pe_and (pe_cmpR op_eq (pe_callB call_isi (by rfl) B.isi PyProof.Rows.boot_isinstance (pa_cons (pv 0) (pa_cons (gt B.bool PyProof.Rows.boot_bool) pa_nil))) (pe_callB call_isi (by rfl) B.isi PyProof.Rows.boot_isinstance (pa_cons (pv 1) (pa_cons (gt B.bool PyProof.Rows.boot_bool) pa_nil))) (nomark _))
              (pe_one (pe_cmpR (op_eqD hr.units) (pv 0) (pv 1) (nomark _))))))) pss_nil)
        (pss_one (ps_ret (pe_and (pe_not (pe_callB call_isiT (by rfl) B.isi PyProof.Rows.boot_isinstance (pa_cons (pv 0) (pa_cons (pe_tup (pa_cons (gt B.int PyProof.Rows.boot_int) (pa_cons (gt B.lst PyProof.Rows.boot_list) (pa_cons (gt B.tup PyProof.Rows.boot_tuple) (pa_cons (gt B.dict PyProof.Rows.boot_dict) pa_nil))))) pa_nil))))
          (pe_one (pe_cmpR (op_eqD hr.units) (pv 0) (pv 1) (nomark _)))))))), ?_⟩
      refine ⟨_, rfl, by show 2 ≤ sizeLine; decide, fun p hp => ?_⟩
      have s1 : Same H (upd H p (.tup [.ty "list", .ty "tuple"])) := Same.new hp
      have hp1 : upd H p (.tup [.ty "list", .ty "tuple"]) p = some (.tup [.ty "list", .ty "tuple"]) := upd_same
      generalize upd H p (.tup [.ty "list", .ty "tuple"]) = H1 at s1 hp1 ⊢
      have hv1 := hv.same s1
      have hu1 := hu.same s1
      refine ⟨_, p, _, _, [.type "list", .type "tuple"], _, rfl, hp1, .cons (.ty "list") (.cons (.ty "tuple") .nil), hu1.ty, kit_list d, _, rfl, ?_⟩
      cases d with
      | lst xs =>
        obtain ⟨j, rfl, hxs⟩ := D.ok_items (d := D.lst xs) (ds := xs) rfl hok
        have hsz2 : (D.lst xs).sz = szs xs + 1 := rfl
        have tv := hv1.ty (K := K)
        have tu := hu1.ty (K := K)
        obtain ⟨l, us, rfl, _, hl, rr⟩ := hv1
        obtain ⟨l2, us2, rfl, _, hl2, rr2⟩ := hu1
        have e1 := rr.length
        have e2 := rr2.length
        have hxl := szs_len xs
        refine iteT ?_
        refine ⟨_, rfl, _, .ty "list", _, _, _, rfl, .ty "list", tv, kit_lst (.lst xs), _, rfl, _, .ty "list", _, _, _, rfl, .ty "list", tu, kit_lst (.lst xs), rfl, _, rfl, ?_⟩
        refine iteF ?_
        refine ⟨_, rfl, _, .ty "tuple", _, _, _, rfl, .ty "tuple", tv, kit_tup (.lst xs), _, rfl, _, .ty "tuple", _, _, _, rfl, .ty "tuple", tu, kit_tup (.lst xs), rfl, _, rfl, ?_⟩
        refine iteF ?_
        refine ⟨_, rfl, l, us, rfl, .inl (SqL.of hl), _, rfl, l2, us2, rfl, .inl (SqL.of hl2), rfl, _, rfl, ?_⟩
        rw [e1, e2]
        refine ite2 (fun _ => ?_) (fun h => absurd (decide_eq_true rfl) h)
        refine ⟨_, rfl, _, rfl, l, l2, us, us2, rfl, .inl ⟨SqL.of hl, SqL.of hl2, fun D0 hD => lc_it (walk_zip (n := us.length) (by omega)) (fun i H' => Same H1 H' ∧ H' D0 = some (.lst ((List.replicate i true).map V.bl))) ⟨Same.new hD, upd_same⟩ (fun i H' _ x => ⟨SqL.of (x.1 _ _ hl), SqL.of (x.1 _ _ hl2)⟩) ?_ ?_⟩⟩
        · rintro i x H' H2 hi ⟨sm', hz⟩ ⟨T0, v1, v2, rfl, hT0, rfl, hv1, hv2⟩
          obtain ⟨dx, hdx, r1⟩ := (rr.same sm').get hv1
          obtain ⟨dy, hdy, r2⟩ := (rr2.same sm').get hv2
          rw [hdx] at hdy
          cases hdy
          have sT : Same H' (upd H' T0 (.tup [v1, v2])) := Same.new hT0
          have hm := List.mem_of_getElem? hdx
          have := szs_mem hm
          refine ⟨T0, _, rfl, SqT.of upd_same, rfl, ?_⟩
          refine ⟨_, _, rfl, _, _, rfl, rfl, ?_⟩
          refine ⟨rfl, ?_⟩
          refine ⟨_, rfl, _, rfl, S, S2, dx, v1, v2, rfl, r1.same sT, r2.same sT, oks_all hxs dx hm, by omega, fun H3 s3 => ⟨_, s3 _ _ (sT _ _ hz), ?_, Same.at ((sm'.trans sT).trans s3) hD, ?_⟩⟩
          · rw [List.length_map, List.length_replicate]
            exact Nat.lt_of_lt_of_le (show i < 1000001 by omega) (by decide)
          · rw [upd_same, List.replicate_succ', List.map_append]
            rfl
        · rintro H' ⟨sm', hz⟩
          refine ⟨D0, _, rfl, SqL.of hz, ?_⟩
          rw [show ((List.replicate us.length true).all id) = true from List.all_eq_true.mpr fun b hb => (List.mem_replicate.mp hb).2]
          exact k H' (s1.trans sm')
      | tup xs =>
        obtain ⟨j, rfl, hxs⟩ := D.ok_items (d := D.tup xs) (ds := xs) rfl hok
        have hsz2 : (D.tup xs).sz = szs xs + 1 := rfl
        have tv := hv1.ty (K := K)
        have tu := hu1.ty (K := K)
        obtain ⟨l, us, rfl, hl, rr⟩ := hv1
        obtain ⟨l2, us2, rfl, hl2, rr2⟩ := hu1
        have e1 := rr.length
        have e2 := rr2.length
        have hxl := szs_len xs
        refine iteT ?_
        refine ⟨_, rfl, _, .ty "list", _, _, _, rfl, .ty "list", tv, kit_lst (.tup xs), _, rfl, _, .ty "list", _, _, _, rfl, .ty "list", tu, kit_lst (.tup xs), rfl, _, rfl, ?_⟩
        refine iteF ?_
        refine ⟨_, rfl, _, .ty "tuple", _, _, _, rfl, .ty "tuple", tv, kit_tup (.tup xs), _, rfl, _, .ty "tuple", _, _, _, rfl, .ty "tuple", tu, kit_tup (.tup xs), rfl, _, rfl, ?_⟩
        refine iteF ?_
        refine ⟨_, rfl, l, us, rfl, .inr (SqT.of hl), _, rfl, l2, us2, rfl, .inr (SqT.of hl2), rfl, _, rfl, ?_⟩
        rw [e1, e2]
        refine ite2 (fun _ => ?_) (fun h => absurd (decide_eq_true rfl) h)
        refine ⟨_, rfl, _, rfl, l, l2, us, us2, rfl, .inr ⟨SqT.of hl, SqT.of hl2, fun D0 hD => lc_it (walk_zipT' (K := K) (by omega)) (fun i H' => Same H1 H' ∧ H' D0 = some (.lst ((List.replicate i true).map V.bl))) ⟨Same.new hD, upd_same⟩ (fun i H' _ x => ⟨SqT.of (x.1 _ _ hl), SqT.of (x.1 _ _ hl2)⟩) ?_ ?_⟩⟩
        · rintro i x H' H2 hi ⟨sm', hz⟩ ⟨T0, v1, v2, rfl, hT0, rfl, hv1, hv2⟩
          obtain ⟨dx, hdx, r1⟩ := (rr.same sm').get hv1
          obtain ⟨dy, hdy, r2⟩ := (rr2.same sm').get hv2
          rw [hdx] at hdy
          cases hdy
          have sT : Same H' (upd H' T0 (.tup [v1, v2])) := Same.new hT0
          have hm := List.mem_of_getElem? hdx
          have := szs_mem hm
          refine ⟨T0, _, rfl, SqT.of upd_same, rfl, ?_⟩
          refine ⟨_, _, rfl, _, _, rfl, rfl, ?_⟩
          refine ⟨rfl, ?_⟩
          refine ⟨_, rfl, _, rfl, S, S2, dx, v1, v2, rfl, r1.same sT, r2.same sT, oks_all hxs dx hm, by omega, fun H3 s3 => ⟨_, s3 _ _ (sT _ _ hz), ?_, Same.at ((sm'.trans sT).trans s3) hD, ?_⟩⟩
          · rw [List.length_map, List.length_replicate]
            exact Nat.lt_of_lt_of_le (show i < 1000001 by omega) (by decide)
          · rw [upd_same, List.replicate_succ', List.map_append]
            rfl
        · rintro H' ⟨sm', hz⟩
          refine ⟨D0, _, rfl, SqL.of hz, ?_⟩
          rw [show ((List.replicate us.length true).all id) = true from List.all_eq_true.mpr fun b hb => (List.mem_replicate.mp hb).2]
          exact k H' (s1.trans sm')
      | bl b =>
        have hok0 : (D.ok 0 ((.bl b) : D)) := (leaf_ok rfl hok).1
        refine iteF ?_
        refine ⟨_, rfl, _, .ty "dict", _, _, _, rfl, .ty "dict", hu1.ty (K := K), kit_dic (.bl b), _, rfl, ?_⟩
        refine iteF ?_
        refine ⟨_, rfl, _, .ty "int", _, _, _, rfl, .ty "int", hu1.ty (K := K), kit_int (.bl b), _, rfl, ?_⟩
        refine iteT ?_
        refine ⟨_, rfl, _, .ty "int", _, _, _, rfl, .ty "int", hv1.ty (K := K), kit_int (.bl b), _, rfl, ?_⟩
        refine iteT ?_
        refine ⟨_, rfl, _, .ty "bool", _, _, _, rfl, .ty "bool", hv1.ty (K := K), kit_bool (.bl b), _, rfl, _, .ty "bool", _, _, _, rfl, .ty "bool", hu1.ty (K := K), kit_bool (.bl b), rfl, _, rfl, ?_⟩
        refine iteT ?_
        refine ⟨_, rfl, _, rfl, D.py (.bl b), D.py (.bl b), hv1.dp hok0, hu1.dp hok0, D.ok_shaped hok0 (by decide), D.ok_shaped hok0 (by decide), ?_⟩
        rw [eqv_refl hok0]
        exact k H1 s1
      | int i =>
        have hok0 : (D.ok 0 ((.int i) : D)) := (leaf_ok rfl hok).1
        refine iteF ?_
        refine ⟨_, rfl, _, .ty "dict", _, _, _, rfl, .ty "dict", hu1.ty (K := K), kit_dic (.int i), _, rfl, ?_⟩
        refine iteF ?_
        refine ⟨_, rfl, _, .ty "int", _, _, _, rfl, .ty "int", hu1.ty (K := K), kit_int (.int i), _, rfl, ?_⟩
        refine iteT ?_
        refine ⟨_, rfl, _, .ty "int", _, _, _, rfl, .ty "int", hv1.ty (K := K), kit_int (.int i), _, rfl, ?_⟩
        refine iteT ?_
        refine ⟨_, rfl, _, .ty "bool", _, _, _, rfl, .ty "bool", hv1.ty (K := K), kit_bool (.int i), _, rfl, _, .ty "bool", _, _, _, rfl, .ty "bool", hu1.ty (K := K), kit_bool (.int i), rfl, _, rfl, ?_⟩
        refine iteT ?_
        refine ⟨_, rfl, _, rfl, D.py (.int i), D.py (.int i), hv1.dp hok0, hu1.dp hok0, D.ok_shaped hok0 (by decide), D.ok_shaped hok0 (by decide), ?_⟩
        rw [eqv_refl hok0]
        exact k H1 s1
      | non =>
        have hok0 : (D.ok 0 (.non : D)) := (leaf_ok rfl hok).1
        refine iteF ?_
        refine ⟨_, rfl, _, .ty "dict", _, _, _, rfl, .ty "dict", hu1.ty (K := K), kit_dic .non, _, rfl, ?_⟩
        refine iteF ?_
        refine ⟨_, rfl, _, .ty "int", _, _, _, rfl, .ty "int", hu1.ty (K := K), kit_int .non, _, rfl, ?_⟩
        refine iteF ?_
        refine ⟨_, rfl, by show 4 ≤ sizeLine; decide, fun p2 hp2 => ?_⟩
        have s2 : Same H1 (upd H1 p2 (.tup [.ty "int", .ty "list", .ty "tuple", .ty "dict"])) := Same.new hp2
        have hp3 : upd H1 p2 (.tup [.ty "int", .ty "list", .ty "tuple", .ty "dict"]) p2 = some (.tup [.ty "int", .ty "list", .ty "tuple", .ty "dict"]) := upd_same
        generalize upd H1 p2 (.tup [.ty "int", .ty "list", .ty "tuple", .ty "dict"]) = H2 at s2 hp3 ⊢
        have hv2 := hv1.same s2
        have hu2 := hu1.same s2
        refine ⟨_, p2, _, _, [.type "int", .type "list", .type "tuple", .type "dict"], _, rfl, hp3, .cons (.ty "int") (.cons (.ty "list") (.cons (.ty "tuple") (.cons (.ty "dict") .nil))), hv2.ty (K := K), kit_four .non, _, rfl, _, rfl, ?_⟩
        refine iteT ?_
        refine ⟨_, rfl, _, rfl, D.py .non, D.py .non, hv2.dp hok0, hu2.dp hok0, D.ok_shaped hok0 (by decide), D.ok_shaped hok0 (by decide), ?_⟩
        rw [eqv_refl hok0]
        exact k H2 (s1.trans s2)
      | str z =>
        have hok0 : (D.ok 0 ((.str z) : D)) := (leaf_ok rfl hok).1
        refine iteF ?_
        refine ⟨_, rfl, _, .ty "dict", _, _, _, rfl, .ty "dict", hu1.ty (K := K), kit_dic (.str z), _, rfl, ?_⟩
        refine iteF ?_
        refine ⟨_, rfl, _, .ty "int", _, _, _, rfl, .ty "int", hu1.ty (K := K), kit_int (.str z), _, rfl, ?_⟩
        refine iteF ?_
        refine ⟨_, rfl, by show 4 ≤ sizeLine; decide, fun p2 hp2 => ?_⟩
        have s2 : Same H1 (upd H1 p2 (.tup [.ty "int", .ty "list", .ty "tuple", .ty "dict"])) := Same.new hp2
        have hp3 : upd H1 p2 (.tup [.ty "int", .ty "list", .ty "tuple", .ty "dict"]) p2 = some (.tup [.ty "int", .ty "list", .ty "tuple", .ty "dict"]) := upd_same
        generalize upd H1 p2 (.tup [.ty "int", .ty "list", .ty "tuple", .ty "dict"]) = H2 at s2 hp3 ⊢
        have hv2 := hv1.same s2
        have hu2 := hu1.same s2
        refine ⟨_, p2, _, _, [.type "int", .type "list", .type "tuple", .type "dict"], _, rfl, hp3, .cons (.ty "int") (.cons (.ty "list") (.cons (.ty "tuple") (.cons (.ty "dict") .nil))), hv2.ty (K := K), kit_four (.str z), _, rfl, _, rfl, ?_⟩
        refine iteT ?_
        refine ⟨_, rfl, _, rfl, D.py (.str z), D.py (.str z), hv2.dp hok0, hu2.dp hok0, D.ok_shaped hok0 (by decide), D.ok_shaped hok0 (by decide), ?_⟩
        rw [eqv_refl hok0]
        exact k H2 (s1.trans s2)
      | dic => simp only [D.ok] at hok
end
end Q1

set_option Elab.async false
set_option maxRecDepth 100000
set_option maxHeartbeats 4000000
namespace Q1
open PySem L2 LamX
mutual
/-- what stands at a value is one datum -/
theorem Rep.uniq {S S2 : Addr → Prop} {H : Hp} : ∀ {d e : D} {v : V}, Rep S H d v → Rep S2 H e v → d = e
  | .non, e, v, h, k => by
    cases (show v = .non from h)
    cases e with
    | non => rfl
    | bl _ => cases (show V.non = _ from k)
    | int _ => cases (show V.non = _ from k)
    | str _ => cases (show V.non = _ from k)
    | lst _ => obtain ⟨_, _, q, _⟩ := k; cases q
    | tup _ => obtain ⟨_, _, q, _⟩ := k; cases q
    | dic => obtain ⟨_, q, _⟩ := k; cases q
  | .bl b, e, v, h, k => by
    cases (show v = .bl b from h)
    cases e with
    | non => cases (show V.bl b = _ from k)
    | bl _ => cases (show V.bl b = _ from k); rfl
    | int _ => cases (show V.bl b = _ from k)
    | str _ => cases (show V.bl b = _ from k)
    | lst _ => obtain ⟨_, _, q, _⟩ := k; cases q
    | tup _ => obtain ⟨_, _, q, _⟩ := k; cases q
    | dic => obtain ⟨_, q, _⟩ := k; cases q
  | .int b, e, v, h, k => by
    cases (show v = .int b from h)
    cases e with
    | non => cases (show V.int b = _ from k)
    | bl _ => cases (show V.int b = _ from k)
    | int _ => cases (show V.int b = _ from k); rfl
    | str _ => cases (show V.int b = _ from k)
    | lst _ => obtain ⟨_, _, q, _⟩ := k; cases q
    | tup _ => obtain ⟨_, _, q, _⟩ := k; cases q
    | dic => obtain ⟨_, q, _⟩ := k; cases q
  | .str b, e, v, h, k => by
    cases (show v = .str b from h)
    cases e with
    | non => cases (show V.str b = _ from k)
    | bl _ => cases (show V.str b = _ from k)
    | int _ => cases (show V.str b = _ from k)
    | str _ => cases (show V.str b = _ from k); rfl
    | lst _ => obtain ⟨_, _, q, _⟩ := k; cases q
    | tup _ => obtain ⟨_, _, q, _⟩ := k; cases q
    | dic => obtain ⟨_, q, _⟩ := k; cases q
  | .lst xs, e, v, h, k => by
    obtain ⟨a, vs, rfl, _, ha, r⟩ := h
    cases e with
    | non => cases (show V.ref a = _ from k)
    | bl _ => cases (show V.ref a = _ from k)
    | int _ => cases (show V.ref a = _ from k)
    | str _ => cases (show V.ref a = _ from k)
    | lst ys =>
      obtain ⟨b, us, q, _, hb, r2⟩ := k
      cases q
      rw [ha] at hb
      cases hb
      rw [Reps.uniq r r2]
    | tup ys =>
      obtain ⟨b, us, q, hb, r2⟩ := k
      cases q
      rw [ha] at hb
      cases hb
    | dic =>
      obtain ⟨b, q, hb⟩ := k
      cases q
      rw [ha] at hb
      cases hb
  | .tup xs, e, v, h, k => by
    obtain ⟨a, vs, rfl, ha, r⟩ := h
    cases e with
    | non => cases (show V.ref a = _ from k)
    | bl _ => cases (show V.ref a = _ from k)
    | int _ => cases (show V.ref a = _ from k)
    | str _ => cases (show V.ref a = _ from k)
    | lst ys =>
      obtain ⟨b, us, q, _, hb, r2⟩ := k
      cases q
      rw [ha] at hb
      cases hb
    | tup ys =>
      obtain ⟨b, us, q, hb, r2⟩ := k
      cases q
      rw [ha] at hb
      cases hb
      rw [Reps.uniq r r2]
    | dic =>
      obtain ⟨b, q, hb⟩ := k
      cases q
      rw [ha] at hb
      cases hb
  | .dic, e, v, h, k => by
    obtain ⟨a, rfl, ha⟩ := h
    cases e with
    | non => cases (show V.ref a = _ from k)
    | bl _ => cases (show V.ref a = _ from k)
    | int _ => cases (show V.ref a = _ from k)
    | str _ => cases (show V.ref a = _ from k)
    | lst ys =>
      obtain ⟨b, us, q, _, hb, r2⟩ := k
      cases q
      rw [ha] at hb
      cases hb
    | tup ys =>
      obtain ⟨b, us, q, hb, r2⟩ := k
      cases q
      rw [ha] at hb
      cases hb
    | dic => rfl
theorem Reps.uniq {S S2 : Addr → Prop} {H : Hp} : ∀ {ds es : List D} {vs : List V}, Reps S H ds vs → Reps S2 H es vs → ds = es
  | [], es, vs, h, k => by
    cases (show vs = [] from h)
    cases es with
    | nil => rfl
    | cons _ _ => obtain ⟨_, _, q, _⟩ := k; cases q
  | d :: ds, es, vs, h, k => by
    obtain ⟨v, r, rfl, h1, h2⟩ := h
    cases es with
    | nil => cases (show v :: r = [] from k)
    | cons e es =>
      obtain ⟨u, r2, q, k1, k2⟩ := k
      cases q
      rw [Rep.uniq h1 k1, Reps.uniq h2 k2]
end
mutual
/-- a list does not stand within itself -/
theorem Rep.apart {S : Addr → Prop} {H : Hp} {d0 : D} {a : Addr} (h0 : Rep S H d0 (.ref a)) : ∀ {d : D} {v : V}, Rep S H d v → d.sz < d0.sz → Rep (fun b => S b ∧ b ≠ a) H d v
  | .non, _, h, _ => h
  | .bl _, _, h, _ => h
  | .int _, _, h, _ => h
  | .str _, _, h, _ => h
  | .dic, _, h, _ => h
  | .lst xs, v, h, k => by
    have h' := h
    obtain ⟨b, vs, rfl, sb, hb, r⟩ := h
    have k2 : szs xs + 1 < d0.sz := k
    refine ⟨b, vs, rfl, ⟨sb, fun q => ?_⟩, hb, Reps.apart h0 r (by omega)⟩
    subst q
    have := Rep.uniq h' h0
    rw [this] at k
    exact Nat.lt_irrefl _ k
  | .tup xs, v, h, k => by
    obtain ⟨b, vs, rfl, hb, r⟩ := h
    have k2 : szs xs + 1 < d0.sz := k
    exact ⟨b, vs, rfl, hb, Reps.apart h0 r (by omega)⟩
theorem Reps.apart {S : Addr → Prop} {H : Hp} {d0 : D} {a : Addr} (h0 : Rep S H d0 (.ref a)) : ∀ {ds : List D} {vs : List V}, Reps S H ds vs → szs ds < d0.sz → Reps (fun b => S b ∧ b ≠ a) H ds vs
  | [], _, h, _ => h
  | d :: ds, _, h, k => by
    obtain ⟨v, r, rfl, h1, h2⟩ := h
    have k2 : d.sz + szs ds < d0.sz := k
    exact ⟨v, r, rfl, Rep.apart h0 h1 (by omega), Reps.apart h0 h2 (by omega)⟩
end
end Q1

set_option Elab.async false
set_option maxRecDepth 100000
set_option maxHeartbeats 4000000
namespace Q1
open PySem L2 LamX
def lateV (k : Nat) : List V := List.replicate k (.str "late")
def lateD (k : Nat) : List D := List.replicate k (.str "late")
mutual
/-- the lists in it, as often as they stand in it -/
def D.nl : D → Nat
  | .lst xs => nls xs + 1
  | .tup xs => nls xs
  | _ => 0
def nls : List D → Nat
  | [] => 0
  | x :: xs => x.nl + nls xs
end
mutual
/-- its lists are no longer than this -/
def D.le (M : Nat) : D → Prop
  | .lst xs => xs.length ≤ M ∧ les M xs
  | .tup xs => les M xs
  | _ => True
def les (M : Nat) : List D → Prop
  | [] => True
  | x :: xs => x.le M ∧ les M xs
end
mutual
/-- its lists have grown, each by K at most -/
def Gr (K : Nat) : D → D → Prop
  | .lst xs, e => ∃ ys k, e = .lst (ys ++ lateD k) ∧ k ≤ K ∧ Grs K xs ys
  | .tup xs, e => ∃ ys, e = .tup ys ∧ Grs K xs ys
  | d, e => e = d
def Grs (K : Nat) : List D → List D → Prop
  | [], ys => ys = []
  | x :: xs, ys => ∃ y r, ys = y :: r ∧ Gr K x y ∧ Grs K xs r
end
theorem Grs.length {K : Nat} : ∀ {xs ys : List D}, Grs K xs ys → ys.length = xs.length
  | [], _, h => by cases h; rfl
  | _ :: _, _, h => by
    obtain ⟨y, r, rfl, _, h2⟩ := h
    rw [List.length_cons, List.length_cons, Grs.length h2]
theorem nls_app : ∀ xs ys : List D, nls (xs ++ ys) = nls xs + nls ys
  | [], ys => by show nls ys = 0 + nls ys; omega
  | x :: xs, ys => by
    show x.nl + nls (xs ++ ys) = x.nl + nls xs + nls ys
    rw [nls_app xs ys]
    omega
theorem nls_late : ∀ k, nls (lateD k) = 0
  | 0 => rfl
  | k + 1 => by
    show 0 + nls (lateD k) = 0
    rw [nls_late k]
theorem les_app {M : Nat} : ∀ {xs ys : List D}, les M xs → les M ys → les M (xs ++ ys)
  | [], _, _, k => k
  | _ :: _, _, h, k => ⟨h.1, les_app h.2 k⟩
theorem les_late {M : Nat} : ∀ k, les M (lateD k)
  | 0 => trivial
  | k + 1 => ⟨trivial, les_late k⟩
theorem oks_app {n : Nat} : ∀ {xs ys : List D}, oks n xs → oks n ys → oks n (xs ++ ys)
  | [], _, _, k => k
  | _ :: _, _, h, k => ⟨h.1, oks_app h.2 k⟩
theorem oks_late {n : Nat} : ∀ k, oks n (lateD k)
  | 0 => trivial
  | k + 1 => ⟨ok_str (by decide +kernel), oks_late k⟩
mutual
theorem Gr.all {K : Nat} : ∀ {n M : Nat} {d e : D}, Gr K d e → d.ok n → d.le M → e.ok n ∧ e.le (M + K) ∧ e.nl = d.nl
  | _, _, .non, _, h, k, l => by cases h; exact ⟨k, trivial, rfl⟩
  | _, _, .bl _, _, h, k, l => by cases h; exact ⟨k, trivial, rfl⟩
  | _, _, .int _, _, h, k, l => by cases h; exact ⟨k, trivial, rfl⟩
  | _, _, .str _, _, h, k, l => by cases h; exact ⟨k, trivial, rfl⟩
  | _, _, .dic, _, _, k, _ => by simp only [D.ok] at k
  | 0, _, .lst _, _, _, k, _ => k.elim
  | 0, _, .tup _, _, _, k, _ => k.elim
  | n + 1, M, .lst xs, _, h, k, l => by
    obtain ⟨ys, j, rfl, hj, g⟩ := h
    obtain ⟨a, b, c⟩ := Grs.all (n := n) (M := M) g k l.2
    refine ⟨oks_app a (oks_late j), ⟨?_, les_app b (les_late j)⟩, ?_⟩
    · rw [List.length_append, g.length]
      have := l.1
      have : (lateD j).length = j := List.length_replicate
      omega
    · show nls (ys ++ lateD j) + 1 = nls xs + 1
      rw [nls_app, nls_late, c]
  | n + 1, M, .tup xs, _, h, k, l => by
    obtain ⟨ys, rfl, g⟩ := h
    exact Grs.all (n := n) (M := M) g k l
theorem Grs.all {K : Nat} : ∀ {n M : Nat} {ds es : List D}, Grs K ds es → oks n ds → les M ds → oks n es ∧ les (M + K) es ∧ nls es = nls ds
  | _, _, [], es, h, _, _ => by cases (show es = [] from h); exact ⟨trivial, trivial, rfl⟩
  | _, _, d :: ds, _, h, k, l => by
    obtain ⟨y, r, rfl, h1, h2⟩ := h
    obtain ⟨a1, b1, c1⟩ := Gr.all h1 k.1 l.1
    obtain ⟨a2, b2, c2⟩ := Grs.all h2 k.2 l.2
    exact ⟨⟨a1, a2⟩, ⟨b1, b2⟩, by show y.nl + nls r = d.nl + nls ds; rw [c1, c2]⟩
end
/-- lists of S have grown, each by K at most, all else stays -/
def Late (S : Addr → Prop) (K : Nat) (H H' : Hp) : Prop := ∀ a o, H a = some o → (∃ vs k, o = .lst vs ∧ S a ∧ k ≤ K ∧ H' a = some (.lst (vs ++ lateV k))) ∨ (¬ (S a ∧ ∃ vs, o = .lst vs) ∧ H' a = some o)
theorem Late.of {S : Addr → Prop} {K : Nat} {H H' : Hp} (h : Same H H') : Late S K H H' := fun a o e => by
  by_cases q : S a ∧ ∃ vs, o = .lst vs
  · obtain ⟨sa, vs, rfl⟩ := q
    exact .inl ⟨vs, 0, rfl, sa, Nat.zero_le _, by rw [h _ _ e]; simp [lateV]⟩
  · exact .inr ⟨q, h _ _ e⟩
theorem Late.trans {S : Addr → Prop} {K K2 : Nat} {H H1 H2 : Hp} (x : Late S K H H1) (y : Late S K2 H1 H2) : Late S (K + K2) H H2 := fun a o e => by
  rcases x a o e with ⟨vs, k, rfl, sa, hk, h1⟩ | ⟨q, h1⟩
  · rcases y a _ h1 with ⟨us, j, e2, _, hj, h2⟩ | ⟨q, _⟩
    · cases e2
      exact .inl ⟨vs, k + j, rfl, sa, by omega, by rw [h2, List.append_assoc, lateV, lateV, lateV, List.replicate_append_replicate]⟩
    · exact absurd ⟨sa, _, rfl⟩ q
  · rcases y a _ h1 with ⟨us, j, e2, sa, hj, h2⟩ | ⟨_, h2⟩
    · exact absurd ⟨sa, us, e2⟩ q
    · exact .inr ⟨q, h2⟩
theorem Late.weak {S S' : Addr → Prop} {K K2 : Nat} {H H' : Hp} (x : Late S K H H') (hS : ∀ a, S a → S' a) (hK : K ≤ K2) : Late S' K2 H H' := fun a o e => by
  rcases x a o e with ⟨vs, k, rfl, sa, hk, h1⟩ | ⟨q, h1⟩
  · exact .inl ⟨vs, k, rfl, hS a sa, by omega, h1⟩
  · by_cases z : S' a ∧ ∃ vs, o = .lst vs
    · obtain ⟨sa, vs, rfl⟩ := z
      exact .inl ⟨vs, 0, rfl, sa, Nat.zero_le _, by rw [h1]; simp [lateV]⟩
    · exact .inr ⟨z, h1⟩
theorem reps_late {S : Addr → Prop} {H : Hp} : ∀ k, Reps S H (lateD k) (lateV k)
  | 0 => rfl
  | k + 1 => ⟨.str "late", lateV k, rfl, rfl, reps_late k⟩
mutual
theorem Rep.late {S S2 : Addr → Prop} {K : Nat} {H H' : Hp} (x : Late S2 K H H') : ∀ {d : D} {v : V}, Rep S H d v → ∃ e, Gr K d e ∧ Rep S H' e v
  | .non, v, h => ⟨.non, rfl, h⟩
  | .bl b, v, h => ⟨.bl b, rfl, h⟩
  | .int b, v, h => ⟨.int b, rfl, h⟩
  | .str b, v, h => ⟨.str b, rfl, h⟩
  | .dic, v, h => by
    obtain ⟨a, rfl, ha⟩ := h
    rcases x a _ ha with ⟨_, _, q, _⟩ | ⟨_, h1⟩
    · cases q
    · exact ⟨.dic, rfl, a, rfl, h1⟩
  | .lst xs, v, h => by
    obtain ⟨a, vs, rfl, sa, ha, r⟩ := h
    obtain ⟨ys, g, r2⟩ := Reps.late x r
    rcases x a _ ha with ⟨us, k, q, _, hk, h1⟩ | ⟨_, h1⟩
    · cases q
      exact ⟨.lst (ys ++ lateD k), ⟨ys, k, rfl, hk, g⟩, a, _, rfl, sa, h1, Reps.append r2 (reps_late k)⟩
    · exact ⟨.lst ys, ⟨ys, 0, by simp [lateD], Nat.zero_le _, g⟩, a, vs, rfl, sa, h1, r2⟩
  | .tup xs, v, h => by
    obtain ⟨a, vs, rfl, ha, r⟩ := h
    obtain ⟨ys, g, r2⟩ := Reps.late x r
    rcases x a _ ha with ⟨us, k, q, _⟩ | ⟨_, h1⟩
    · cases q
    · exact ⟨.tup ys, ⟨ys, rfl, g⟩, a, vs, rfl, h1, r2⟩
theorem Reps.late {S S2 : Addr → Prop} {K : Nat} {H H' : Hp} (x : Late S2 K H H') : ∀ {ds : List D} {vs : List V}, Reps S H ds vs → ∃ es, Grs K ds es ∧ Reps S H' es vs
  | [], vs, h => ⟨[], rfl, h⟩
  | d :: ds, _, h => by
    obtain ⟨v, r, rfl, h1, h2⟩ := h
    obtain ⟨e, g1, r1⟩ := Rep.late x h1
    obtain ⟨es, g2, r2⟩ := Reps.late x h2
    exact ⟨e :: es, ⟨e, es, rfl, g1, g2⟩, v, r, rfl, r1, r2⟩
end
theorem nls_take_le : ∀ (xs : List D) (i : Nat) (x : D), xs[i]? = some x → nls (xs.take i) + x.nl ≤ nls xs
  | [], _, _, h => by simp at h
  | y :: xs, 0, x, h => by
    cases (show some y = some x from h)
    show 0 + y.nl ≤ y.nl + nls xs
    omega
  | y :: xs, i + 1, x, h => by
    have := nls_take_le xs i x h
    show (y.nl + nls (xs.take i)) + x.nl ≤ y.nl + nls xs
    omega
theorem les_all {M : Nat} : ∀ {ds : List D}, les M ds → ∀ d ∈ ds, d.le M
  | [], _, d, h => by simp at h
  | x :: xs, k, d, h => by
    rcases List.mem_cons.mp h with rfl | h
    · exact k.1
    · exact les_all k.2 d h
end Q1

set_option Elab.async false
set_option maxRecDepth 100000
set_option maxHeartbeats 4000000
namespace Q1
open PySem L2 LamX
section
variable {P : Program} {w : World} {K : PySem.W.Frag} {mg : Str → Option Value} {base : Heap}
/-! ### _law_late -/
abbrev sLate : Stmt := top 45
abbrev nLate : List Str := ["thing", "part"]
theorem scLate : FnScope nLate ["thing"] (defScope sLate) := ⟨rfl, rfl, rfl, by decide +kernel, rfl, by decide +kernel, by decide +kernel⟩
def spLate : Nat → Sp
  | 0 => fun _ _ _ _ => False
  | n + 1 => fun vs H Q _ => ∃ (S : Addr → Prop) (d : D) (v : V) (M : Nat), vs = [v] ∧ Rep S H d v ∧ d.ok n ∧ d.le M ∧ M + d.nl ≤ 1000000 ∧ ∀ H', Late S d.nl H H' → Q .non H'
theorem ok_late (B : Bt mg) (N : Dn K mg "_law_late" sLate ["thing"]) : ∀ n, FnOk P w K mg base CX0 (n + 1) N.f N.fd ["thing"] (spLate n)
  | 0 => ⟨fun vs H Q E h => h.elim, fun A outer s H args us vs Q E hr he hb hv hs => hs.elim⟩
  | n + 1 => by
    have GR : FnOk P w K mg base CX0 (n + 1) N.f N.fd ["thing"] (spLate n) := ok_late B N n
    refine N.F.ok scLate (fun vs H Q E h => ?_) (fun cdv A outer s H vs Q E hr h => ?_)
    · obtain ⟨S, d, v, M, rfl, _⟩ := h
      rfl
    · obtain ⟨S, d, v, M, rfl, hv, hok, hle, hM, k⟩ := h
      refine ⟨_, pss_cons (ps_if (pt_val (pe_callB call_isiT (by rfl) B.isi PyProof.Rows.boot_isinstance (pa_cons (pv 0) (pa_cons (pe_tup (pa_cons (gt B.lst PyProof.Rows.boot_list) (pa_cons (gt B.tup PyProof.Rows.boot_tuple) pa_nil))) pa_nil))) (fun _ => rfl))
          (pss_one (ps_for PassesOwn.never rfl (pi_seq (pv 0)) (pg_name (i := 1) scLate.nd rfl (Or.inl rfl)) (pss_one (ps_expr (pe_call GR hr (by rfl) N.g N.F.kp N.b .nil pass0 (pa_cons (pv 1) pa_nil)))))) pss_nil)
        (pss_one (ps_if (pt_val (pe_callB call_isi (by rfl) B.isi PyProof.Rows.boot_isinstance (pa_cons (pv 0) (pa_cons (gt B.lst PyProof.Rows.boot_list) pa_nil))) (fun _ => rfl))
          (pss_one (ps_expr (pe_bm PySem.F.plainAttrs_list PySem.F.slot_list_append PySem.F.type_list_append mt_append (pv 0) (pa_cons pe_str pa_nil)))) pss_nil)), ?_⟩
      refine ⟨_, rfl, by show 2 ≤ sizeLine; decide, fun p hp => ?_⟩
      have s1 : Same H (upd H p (.tup [.ty "list", .ty "tuple"])) := Same.new hp
      have hp1 : upd H p (.tup [.ty "list", .ty "tuple"]) p = some (.tup [.ty "list", .ty "tuple"]) := upd_same
      generalize upd H p (.tup [.ty "list", .ty "tuple"]) = H1 at s1 hp1 ⊢
      have hv1 := hv.same s1
      refine ⟨_, p, _, _, [.type "list", .type "tuple"], _, rfl, hp1, .cons (.ty "list") (.cons (.ty "tuple") .nil), hv1.ty, kit_list d, _, rfl, ?_⟩
      cases d with
      | lst xs =>
        obtain ⟨j, rfl, hxs⟩ := D.ok_items (d := D.lst xs) (ds := xs) rfl hok
        have hnl : (D.lst xs).nl = nls xs + 1 := rfl
        have hle2 : xs.length ≤ M ∧ les M xs := hle
        have hself := hv1
        obtain ⟨a, vs, rfl, sa, ha, rr⟩ := hv1
        have ra := Reps.apart hself rr (show szs xs < szs xs + 1 by omega)
        have hvl := rr.length
        refine iteT ?_
        refine ⟨_, rfl, a, rfl, .inl ⟨⟨vs, SqL.of ha⟩, for_it (walk_list (K := K) (a := a) (xs := vs)) (fun i σ H' => (∃ o1, σ = [some (.ref a), o1]) ∧ Late (fun b => S b ∧ b ≠ a) (nls (xs.take i)) H1 H') ⟨⟨_, rfl⟩, Late.of (fun _ _ e => e)⟩ ?_ ?_ ?_⟩⟩
        · intro i σ H' _ x
          rcases x.2 a _ ha with ⟨_, _, _, q, _⟩ | ⟨_, h1⟩
          · exact absurd rfl q.2
          · exact SqL.of h1
        · rintro i x σ _ H2 _ ⟨⟨o1, rfl⟩, la⟩ ⟨rfl, hx⟩
          obtain ⟨dx, hdx, rx⟩ := ra.get hx
          obtain ⟨e, ge, re⟩ := rx.late la
          have hm := List.mem_of_getElem? hdx
          have htk := nls_take_le xs i dx hdx
          obtain ⟨g1, g2, g3⟩ := ge.all (oks_all hxs dx hm) (les_all hle2.2 dx hm)
          refine ⟨_, rfl, (fun b => S b ∧ b ≠ a), e, x, M + nls (xs.take i), rfl, re, g1, g2, by omega, fun H3 l3 => ⟨⟨_, rfl⟩, ?_⟩⟩
          have := la.trans l3
          rw [g3] at this
          rw [List.take_add_one, hdx, nls_app]
          exact this.weak (fun _ z => z) (by show _ ≤ nls (xs.take i) + (dx.nl + 0); omega)
        · rintro σ H2 ⟨⟨o1, rfl⟩, la⟩
          rw [hvl, List.take_length] at la
          have ha2 : H2 a = some (.lst vs) := by
            rcases la a _ ha with ⟨_, _, _, q, _⟩ | ⟨_, h1⟩
            · exact absurd rfl q.2
            · exact h1
          refine ⟨_, rfl, .ref a, .ty "list", _, _, _, rfl, .ty "list", .base (.lst ha2), kit_lst (.lst xs), _, rfl, ?_⟩
          refine iteT ?_
          refine ⟨_, rfl, .inl ⟨rfl, _, SqL.of ha2⟩, a, vs, .str "late", rfl, rfl, ha2, Nat.lt_of_lt_of_le (show vs.length < 1000001 by omega) (by decide), ?_⟩
          refine k _ ?_
          have l1 : Late (fun b => S b ∧ b ≠ a) (0 + nls xs) H H2 := (Late.of s1).trans la
          have l2 : Late S 1 H2 (upd H2 a (.lst (vs ++ [.str "late"]))) := fun b o e => by
            by_cases z : b = a
            · subst z
              rw [ha2] at e
              cases e
              exact .inl ⟨vs, 1, rfl, sa, Nat.le_refl _, upd_same⟩
            · rw [upd_ne z]
              by_cases q : S b ∧ ∃ vs, o = .lst vs
              · obtain ⟨sb, us, rfl⟩ := q
                exact .inl ⟨us, 0, rfl, sb, Nat.zero_le _, by rw [e]; simp [lateV]⟩
              · exact .inr ⟨q, e⟩
          exact ((l1.weak (fun _ z => z.1) (by omega : 0 + nls xs ≤ nls xs)).trans l2).weak (fun _ z => z) (by omega)
      | tup xs =>
        obtain ⟨j, rfl, hxs⟩ := D.ok_items (d := D.tup xs) (ds := xs) rfl hok
        have hnl : (D.tup xs).nl = nls xs := rfl
        have hle2 : les M xs := hle
        obtain ⟨a, vs, rfl, ha, ra⟩ := hv1
        have hvl := ra.length
        refine iteT ?_
        refine ⟨_, rfl, a, rfl, .inr ⟨⟨vs, SqT.of ha⟩, for_it (walk_tup (K := K) (a := a) (xs := vs)) (fun i σ H' => (∃ o1, σ = [some (.ref a), o1]) ∧ Late S (nls (xs.take i)) H1 H') ⟨⟨_, rfl⟩, Late.of (fun _ _ e => e)⟩ ?_ ?_ ?_⟩⟩
        · intro i σ H' _ x
          rcases x.2 a _ ha with ⟨_, _, q, _⟩ | ⟨_, h1⟩
          · cases q
          · exact SqT.of h1
        · rintro i x σ _ H2 _ ⟨⟨o1, rfl⟩, la⟩ ⟨rfl, hx⟩
          obtain ⟨dx, hdx, rx⟩ := ra.get hx
          obtain ⟨e, ge, re⟩ := rx.late la
          have hm := List.mem_of_getElem? hdx
          have htk := nls_take_le xs i dx hdx
          obtain ⟨g1, g2, g3⟩ := ge.all (oks_all hxs dx hm) (les_all hle2 dx hm)
          refine ⟨_, rfl, S, e, x, M + nls (xs.take i), rfl, re, g1, g2, by omega, fun H3 l3 => ⟨⟨_, rfl⟩, ?_⟩⟩
          have := la.trans l3
          rw [g3] at this
          rw [List.take_add_one, hdx, nls_app]
          exact this.weak (fun _ z => z) (by show _ ≤ nls (xs.take i) + (dx.nl + 0); omega)
        · rintro σ H2 ⟨⟨o1, rfl⟩, la⟩
          rw [hvl, List.take_length] at la
          have ha2 : H2 a = some (.tup vs) := by
            rcases la a _ ha with ⟨_, _, q, _⟩ | ⟨_, h1⟩
            · cases q
            · exact h1
          refine ⟨_, rfl, .ref a, .ty "list", _, _, _, rfl, .ty "list", .base (.tup ha2), kit_lst (.tup xs), _, rfl, ?_⟩
          refine iteF ?_
          exact k _ (((Late.of (K := 0) s1).trans la).weak (fun _ z => z) (by omega))
      | non =>
        refine iteF ?_
        refine ⟨_, rfl, v, .ty "list", _, _, _, rfl, .ty "list", hv1.ty (K := K), kit_lst .non, _, rfl, ?_⟩
        exact iteF (k _ (Late.of s1))
      | bl b =>
        refine iteF ?_
        refine ⟨_, rfl, v, .ty "list", _, _, _, rfl, .ty "list", hv1.ty (K := K), kit_lst (.bl b), _, rfl, ?_⟩
        exact iteF (k _ (Late.of s1))
      | int i =>
        refine iteF ?_
        refine ⟨_, rfl, v, .ty "list", _, _, _, rfl, .ty "list", hv1.ty (K := K), kit_lst (.int i), _, rfl, ?_⟩
        exact iteF (k _ (Late.of s1))
      | str z =>
        refine iteF ?_
        refine ⟨_, rfl, v, .ty "list", _, _, _, rfl, .ty "list", hv1.ty (K := K), kit_lst (.str z), _, rfl, ?_⟩
        exact iteF (k _ (Late.of s1))
      | dic =>
        refine iteF ?_
        refine ⟨_, rfl, v, .ty "list", _, _, _, rfl, .ty "list", hv1.ty (K := K), kit_lst .dic, _, rfl, ?_⟩
        exact iteF (k _ (Late.of s1))
end
end Q1

set_option Elab.async false
set_option maxRecDepth 100000
set_option maxHeartbeats 4000000
namespace Q1
open PySem L2 LamX
theorem reps_refs {S : Addr → Prop} {H : Hp} : ∀ {as : List Addr} {ds : List (List D)}, as.length = ds.length → (∀ (i : Nat) (a : Addr) (d : List D), as[i]? = some a → ds[i]? = some d → Rep S H (.lst d) (.ref a)) → Reps S H (ds.map D.lst) (as.map V.ref)
  | [], [], _, _ => rfl
  | [], _ :: _, h, _ => by cases h
  | _ :: _, [], h, _ => by cases h
  | a :: as, d :: ds, h, k => ⟨.ref a, _, rfl, k 0 a d rfl rfl, reps_refs (by simpa using h) fun i b e h1 h2 => k (i + 1) b e h1 h2⟩
theorem newLists_rep {H H' : Hp} {cs : List (List (Str × Bool))} {r : V} (h : NewLists H H' (cs.map fun c => c.map litD) r) : Rep (fun a => H a = none) H' (clausesD cs) r := by
  obtain ⟨l, as, rfl, nl, hl, _, _, fr, la⟩ := h
  refine ⟨l, _, rfl, nl, hl, ?_⟩
  have e : cs.map litsD = (cs.map fun c => c.map litD).map D.lst := by rw [List.map_map]; rfl
  rw [e]
  refine reps_refs la.1 fun i a d ha hd => ?_
  obtain ⟨vs, h1, h2⟩ := la.2 i a d ha hd
  exact ⟨a, vs, rfl, fr a (List.mem_of_getElem? ha), h1, Reps.mono (fun _ z => z.elim) (fun _ _ e _ => e) h2⟩
section
variable {P : Program} {w : World} {K : PySem.W.Frag} {mg : Str → Option Value} {base : Heap}
/-- the methods that tell -/
structure Mt (K : PySem.W.Frag) (C : Addr) where
  fm : Addr
  fdm : FuncData
  Fm : Fun K "marks" "Question.marks" sMarks fm fdm
  bm : Binds K fdm ["self"] []
  mm : Meth K C "marks" fm
  fw : Addr
  fdw : FuncData
  Fw : Fun K "wishes" "Question.wishes" sWishes fw fdw
  bw : Binds K fdw ["self"] []
  mw : Meth K C "wishes" fw
  fg : Addr
  fdg : FuncData
  Fg : Fun K "guards" "Question.guards" sGuards fg fdg
  bg : Binds K fdg ["self"] []
  mg : Meth K C "guards" fg
/-! ### _law_parts -/
abbrev sParts : Stmt := top 42
theorem scParts : FnScope ["question"] ["question"] (defScope sParts) := ⟨rfl, rfl, rfl, by decide +kernel, rfl, by decide +kernel, by decide +kernel⟩
def spParts (C : Addr) : Sp := fun vs H Q _ => ∃ (S : Addr → Prop) (q : Addr) (ps : List (Str × D)) (cw cg : List (List (Str × Bool))), vs = [.ref q] ∧ QAt C S H q ps cw cg ∧ ps.length ≤ 1000 ∧ cw.length ≤ 1000 ∧ cg.length ≤ 1000 ∧ (∀ p ∈ ps, p.2.isHand = true) ∧
  ∀ H' r, Same H H' → Rep (fun a => H a = none) H' (qD ps cw cg) r → Q r H'
theorem QAt.same {C q : Addr} {S : Addr → Prop} {H H' : Hp} {ps : List (Str × D)} {cw cg : List (List (Str × Bool))} (h : QAt C S H q ps cw cg) (e : Same H H') : QAt C S H' q ps cw cg := by
  obtain ⟨dx, n, hA, p, wl, gl, wc, wt, gc, gt, a1, a2, a3, a4, a5, a6, a7, a8, a9, a10⟩ := h
  exact ⟨dx, n, hA, p, wl, gl, wc, wt, gc, gt, e _ _ a1, a2.same e, a3.same e, e _ _ a4, a5.same e, a6.same e, a7.same e, a8.same e, a9.same e, a10.same e⟩
theorem none_back {H H' : Hp} {a : Addr} (s : Same H H') (h : H' a = none) : H a = none := by
  cases q : H a with
  | none => rfl
  | some o => rw [s a o q] at h; cases h
theorem ok_parts (B : Bt mg) (Z : Qc K mg) (M : Mt K Z.C) (N : Dn K mg "_law_parts" sParts ["question"]) : FnOk P w K mg base CX0 2 N.f N.fd ["question"] (spParts Z.C) := by
  have GM : FnOk P w K mg base CX0 1 M.fm M.fdm ["self"] (spMarks Z.C) := ok_marks B Z M.Fm
  have GW : FnOk P w K mg base CX0 1 M.fw M.fdw ["self"] (spWishes Z.C false) := ok_wishes B Z M.Fw
  have GG : FnOk P w K mg base CX0 1 M.fg M.fdg ["self"] (spWishes Z.C true) := ok_guards B Z M.Fg
  refine N.F.ok scParts (fun vs H Q E h => ?_) (fun cdv A outer s H vs Q E hr h => ?_)
  · obtain ⟨S, q, ps, cw, cg, rfl, _⟩ := h
    rfl
  · obtain ⟨S, q, ps, cw, cg, rfl, hq, l1, l2, l3, hh, k⟩ := h
    refine ⟨_, pss_one (ps_ret (pe_tup (pa_cons (pe_meth0 (pv 0) Z.cl M.mm GM hr M.bm .nil pass0) (pa_cons (pe_meth0 (pv 0) Z.cl M.mw GW hr M.bw .nil pass0) (pa_cons (pe_meth0 (pv 0) Z.cl M.mg GG hr M.bg .nil pass0) pa_nil))))), ?_⟩
    obtain ⟨dx, n, hA, p, wl, gl, wc, wt, gc, gt, a1, _⟩ := id hq
    refine ⟨_, rfl, q, dx, _, rfl, a1, rfl, S, q, ps, cw, cg, rfl, hq, l1, hh, fun H1 lm ts s1 nm hm rm => ?_⟩
    have hq1 := hq.same s1
    refine ⟨_, rfl, q, dx, _, rfl, s1 _ _ a1, rfl, S, q, ps, cw, cg, rfl, hq1, l2, fun H2 rw2 s2 nw => ?_⟩
    have hq2 := hq1.same s2
    refine ⟨_, rfl, q, dx, _, rfl, s2 _ _ (s1 _ _ a1), rfl, S, q, ps, cw, cg, rfl, hq2, l3, fun H3 rg3 s3 ng => ?_⟩
    refine ⟨by show 3 ≤ sizeLine; decide, fun t ht => ?_⟩
    have s4 : Same H3 (upd H3 t (.tup [.ref lm, rw2, rg3])) := Same.new ht
    refine k _ (.ref t) (((s1.trans s2).trans s3).trans s4) ⟨t, _, rfl, upd_same, .ref lm, _, rfl, ?_, rw2, _, rfl, ?_, rg3, _, rfl, ?_, rfl⟩
    · exact ⟨lm, ts, rfl, nm, s4 _ _ (s3 _ _ (s2 _ _ hm)), Reps.mono (fun _ z => z.elim) (stay_of ((s2.trans s3).trans s4)) rm⟩
    · exact Rep.mono (fun a z => none_back s1 z) (stay_of (s3.trans s4)) (newLists_rep nw)
    · exact Rep.mono (fun a z => none_back (s1.trans s2) z) (stay_of s4) (newLists_rep ng)
end
end Q1

set_option Elab.async false
set_option maxRecDepth 100000
set_option maxHeartbeats 4000000
namespace Q1
open PySem L2 LamX
/-- each once, as they come first -/
def onceS (acc : List Str) (x : Str) : List Str := if x ∈ acc then acc else acc ++ [x]
def once (xs : List Str) : List Str := xs.foldl onceS []
theorem once_le : ∀ (xs acc : List Str), (xs.foldl onceS acc).length ≤ acc.length + xs.length
  | [], acc => Nat.le_refl _
  | x :: xs, acc => by
    show (xs.foldl onceS (onceS acc x)).length ≤ _
    have h := once_le xs (onceS acc x)
    have h2 : (onceS acc x).length ≤ acc.length + 1 := by
      unfold onceS
      by_cases z : x ∈ acc
      · rw [if_pos z]; omega
      · rw [if_neg z, List.length_append]; exact Nat.le_refl _
    rw [List.length_cons]
    omega
theorem once_nodup : ∀ (xs acc : List Str), acc.Nodup → (xs.foldl onceS acc).length = acc.length + xs.length → (acc ++ xs).Nodup
  | [], acc, h, _ => by rw [List.append_nil]; exact h
  | x :: xs, acc, h, e => by
    have e : (xs.foldl onceS (onceS acc x)).length = acc.length + (xs.length + 1) := e
    by_cases z : x ∈ acc
    · have q : onceS acc x = acc := by unfold onceS; rw [if_pos z]
      rw [q] at e
      have := once_le xs acc
      omega
    · have q : onceS acc x = acc ++ [x] := by unfold onceS; rw [if_neg z]
      rw [q] at e
      have nd : (acc ++ [x]).Nodup := by
        rw [List.nodup_append]
        exact ⟨h, by simp, fun a h1 b h2 => by
          have : b = x := by simpa using h2
          subst this
          exact fun z2 => z (z2 ▸ h1)⟩
      have := once_nodup xs (acc ++ [x]) nd (by rw [List.length_append]; simp only [List.length_cons, List.length_nil]; omega)
      rw [List.append_assoc] at this
      exact this
theorem once_of {xs : List Str} (h : (once xs).length = xs.length) : xs.Nodup := by
  have := once_nodup xs [] List.nodup_nil (by rw [List.length_nil, Nat.zero_add]; exact h)
  simpa using this
theorem inV_strs (y : Str) : ∀ acc : List Str, inV (.str y) (acc.map V.str) = decide (y ∈ acc)
  | [] => by simp [inV]
  | x :: acc => by
    have h := inV_strs y acc
    unfold inV at h ⊢
    rw [List.map_cons, List.any_cons, h]
    have e : eqV (V.str x) (V.str y) = decide (y = x) := by
      show (x == y) = decide (y = x)
      exact beq_dec x y
    rw [e]
    by_cases q : y = x
    · simp [q]
    · simp [q]
theorem flat_strs (acc : List Str) : (acc.map V.str).all flatV = true := by
  rw [List.all_map, List.all_eq_true]
  intro x _
  rfl
section
variable {P : Program} {w : World} {K : PySem.W.Frag} {mg : Str → Option Value} {base : Heap}
/-! ### _law_each_once -/
abbrev sOnce : Stmt := top 31
abbrev nOnce : List Str := ["some", "found", "thing"]
theorem scOnce : FnScope nOnce ["some"] (defScope sOnce) := ⟨rfl, rfl, rfl, by decide +kernel, rfl, by decide +kernel, by decide +kernel⟩
def spOnce : Sp := fun vs H Q _ => ∃ (l : Addr) (xs : List Str), vs = [.ref l] ∧ H l = some (.lst (xs.map V.str)) ∧ xs.length ≤ 1000 ∧ ∀ H' r, Same H H' → H r = none → H' r = some (.lst ((once xs).map V.str)) → Q (.ref r) H'
theorem ok_once (B : Bt mg) (N : Dn K mg "_law_each_once" sOnce ["some"]) : FnOk P w K mg base CX0 1 N.f N.fd ["some"] spOnce := by
  refine N.F.ok scOnce (fun vs H Q E h => ?_) (fun cdv A outer s H vs Q E hr h => ?_)
  · obtain ⟨l, xs, rfl, _⟩ := h
    rfl
  · obtain ⟨l, xs, rfl, hl, hx, k⟩ := h
    refine ⟨_, pss_cons (ps_set (i := 1) scOnce.nd rfl (Or.inl rfl) (pe_lst pa_nil))
      (pss_cons (ps_for PassesOwn.never rfl (pi_list (pv 0)) (pg_name (i := 2) scOnce.nd rfl (Or.inl rfl))
        (pss_one (ps_expr (pe_bm PySem.F.plainAttrs_list PySem.F.slot_list_extend PySem.F.type_list_extend mt_extend (pv 1) (pa_cons (pe_ifExp (pt_cmpR op_notIn_seq (pv 2) (pv 1) (by rfl)) (pe_lst (pa_cons (pv 2) pa_nil)) (pe_lst pa_nil)) pa_nil)))))
      (pss_one (ps_ret (pv 1)))), ?_⟩
    refine ⟨Nat.zero_le _, fun f hf => ?_⟩
    have s1 : Same H (upd H f (.lst [])) := Same.new hf
    refine ⟨_, rfl, l, rfl, ⟨_, SqL.of (s1 _ _ hl)⟩, for_list (K := K) (a := l) (xs := xs.map V.str) (fun i σ H' => (∃ o2, σ = [some (.ref l), some (.ref f), o2]) ∧ Same H H' ∧ H' f = some (.lst (((xs.take i).foldl onceS []).map V.str))) ⟨⟨_, rfl⟩, s1, upd_same⟩ (fun i σ H' _ x => SqL.of (x.2.1 _ _ hl)) ?_ ?_⟩
    · rintro i x σ H' hxi ⟨⟨o2, rfl⟩, sm, hf'⟩
      rw [List.getElem?_map] at hxi
      cases hj : xs[i]? with
      | none => rw [hj] at hxi; cases hxi
      | some y =>
        rw [hj] at hxi
        cases hxi
        refine ⟨_, rfl, .inl ⟨rfl, _, SqL.of hf'⟩, _, rfl, _, rfl, f, _, rfl, .inl (SqL.of hf'), rfl, flat_strs _, _, rfl, ?_⟩
        have hstep : (xs.take (i + 1)).foldl onceS [] = onceS ((xs.take i).foldl onceS []) y := foldl_step hj
        have hlen := once_le (xs.take i) []
        rw [List.length_take, List.length_nil] at hlen
        rw [hstep]
        generalize (xs.take i).foldl onceS [] = acc at hf' hlen ⊢
        rw [inV_strs]
        have big : ∀ k : Nat, k ≤ 2000 → k ≤ sizeLine := fun k hk => Nat.le_trans hk (by decide)
        unfold onceS
        by_cases q : y ∈ acc
        · rw [decide_eq_true q, if_pos q]
          refine iteF ⟨Nat.zero_le _, fun p hp => ?_⟩
          have hf2 : upd H' p (.lst []) f = some (.lst (acc.map V.str)) := Same.new hp _ _ hf'
          refine ⟨f, p, _, _, rfl, rfl, hf2, upd_same, by rw [List.length_map]; exact big _ (by show acc.length + 0 ≤ 2000; omega), ⟨_, rfl⟩, Same.at (sm.trans (Same.new hp)) hf, ?_⟩
          rw [upd_same, List.append_nil]
        · rw [decide_eq_false q, if_neg q]
          refine iteT ⟨_, rfl, by show 1 ≤ sizeLine; decide, fun p hp => ?_⟩
          have hf2 : upd H' p (.lst [.str y]) f = some (.lst (acc.map V.str)) := Same.new hp _ _ hf'
          refine ⟨f, p, _, _, rfl, rfl, hf2, upd_same, by rw [List.length_map]; exact big _ (by show acc.length + 1 ≤ 2000; omega), ⟨_, rfl⟩, Same.at (sm.trans (Same.new hp)) hf, ?_⟩
          rw [upd_same, List.map_append]
          rfl
    · rintro σ H' ⟨⟨o2, rfl⟩, sm, hf'⟩
      rw [List.length_map, List.take_length] at hf'
      exact ⟨_, rfl, k H' f sm hf hf'⟩
end
end Q1

set_option Elab.async false
set_option maxRecDepth 100000
set_option maxHeartbeats 4000000
namespace Q1
open PySem L2 LamX PyProof.Rows
theorem idx_before {m : Str} : ∀ {names : List Str} {i : Nat} (h : i < names.length), i < names.idxOf m → names[i] ≠ m
  | [], i, h, _ => by simp at h
  | x :: xs, i, h, k => by
    rw [List.idxOf_cons] at k
    by_cases q : (x == m) = true
    · rw [q] at k
      simp at k
    · have q2 : (x == m) = false := by simpa using q
      rw [q2] at k
      cases i with
      | zero => exact fun z => q (beq_iff_eq.mpr z)
      | succ i => exact idx_before (names := xs) (by simpa using h) (by simpa using k)
section
variable {P : Program} {w : World} {K : PySem.W.Frag} {mg : Str → Option Value} {base : Heap}
/-! ### _law_ordered -/
abbrev sOrdered : Stmt := top 47
abbrev nOrdered : List Str := ["names", "clause"]
theorem scOrdered : FnScope nOrdered ["names", "clause"] (defScope sOrdered) := ⟨rfl, rfl, rfl, by decide +kernel, rfl, by decide +kernel, by decide +kernel⟩
/-- the key of a literal: where its mark stands among the names -/
def keyIx (σ : L2.St) (H : Hp) (v : V) (n : Int) : Prop := ∃ (l t : Addr) (names : List Str) (m : Str) (b : Bool), σ[0]? = some (some (.ref l)) ∧ H l = some (.lst (names.map V.str)) ∧ v = .ref t ∧ H t = some (.tup [.str m, .bl b]) ∧ m ∈ names ∧ n = ((names.idxOf m : Nat) : Int)
theorem body_index {X : Cx} {scope : Scope} {p1 p2 p3 p4 p5 p6 : Pos} {j : Nat} (hN : X.N[0]? = some ("names" : Str)) (hk : scope.kind = .function) (hf : scope.names.lookup ("names" : Str) = some .free) (hl : scope.names.lookup ("literal" : Str) = some .local) (hline : (p5.endLine == p6.line) = true)
    (A : Around) (σ : L2.St) (H : Hp) (v : V) (u : Value) (n : Int) (s : Shared) (env : Env) (hκ : keyIx σ H v n) (rv : L2.RelV v u) (hok : HOk X.prog X.w H s.heap) (sees : LamSees X scope "literal" σ s env u) (hA : A.handled = none) (hu : A.units + 64 < cLine) :
    wpAny (model X.prog X.w) A (eval (.Call (.Attribute (.Name "names" p1) "index" p5) [.Subscript (.Name "literal" p2) (.Constant (.int 0) j p3) p4] [] p6) env) (fun r s' => ∃ t tk, r = .int n t ∧ s' = { s with toks := tk }) (fun _ _ => False) s := by
  obtain ⟨l, t, names, m, b, hs, hpl, rfl, ht, hm, rfl⟩ := hκ
  cases rv
  obtain ⟨esc, ⟨mm, hns, hmm⟩, hfr⟩ := sees
  obtain ⟨c, w', hc, hcell, rw'⟩ := hfr 0 _ _ hN hs hf
  cases rw'
  have hk' : env.scope.kind = .function := by rw [esc]; exact hk
  obtain ⟨hz, its, kk, rl, el⟩ := (show ObjOk X.prog X.w H s.heap l (.lst (names.map V.str)) from hok l _ hpl)
  obtain ⟨_, its2, rvs, pl2⟩ := (show ObjOk X.prog X.w H s.heap t (.tup [.str m, .bl b]) from hok t _ ht)
  obtain ⟨u0, hu0, ru0⟩ := rvs.get (i := 0) (x := .str m) rfl
  obtain ⟨tm, rfl⟩ := (show ∃ tm, u0 = Value.str m tm from ru0)
  have hlen := rvs.length
  refine wpAny_Call_method_late (by rfl) (by rfl) hline rfl (wpAny_Name (wpAny_loadName_free hk' (by show env.scope.names.lookup _ = _; rw [esc]; exact hf) hc hcell ?_))
  refine ⟨"list", "list.index", PySem.F.plainAttrs_list, PySem.F.slot_list_index, PySem.F.type_list_index, ⟨_, el, rfl⟩, fun a e => by cases e; exact ⟨_, el, rfl⟩, ?_⟩
  refine Calls.callWith_builtin (by rfl) (Calls.evalArgs_plain (args_cons (Subscript_ (wpAny_Name (wpAny_loadName_local hk' (by show env.scope.names.lookup _ = _; rw [esc]; exact hl) hns hmm ?_)))))
  refine wpAny_Constant_int ?_
  refine subscriptTail_builtinR (x := .str m tm) (s := { s with toks := s.toks + 1 }) (show Shared.TypeIs { s with toks := s.toks + 1 } (.ref t) "tuple" from pl2.typeIs) slot_tuple_getitem.lookup
    (getItem_tuple (j := 0) (Q := fun r s' => r = .str m tm ∧ _) pl2 (by omega) (by omega) (by rw [List.size_toArray, ← hlen]; rfl) (by simpa using hu0) ⟨rfl, ?_⟩) rfl
  refine args_nil ?_
  have hjn : names.idxOf m < names.length := List.idxOf_lt_length_of_mem hm
  have hvl := rl.length
  rw [List.length_map] at hvl
  have fys : (names.map V.str).all flatV = true := flat_strs names
  have ry : L2.RelV (V.str m) (Value.str m tm) := ⟨tm, rfl⟩
  have hzj : (names.map V.str)[names.idxOf m]? = some (.str m) := by
    rw [List.getElem?_map, List.getElem?_eq_getElem hjn, List.getElem_idxOf]
    rfl
  obtain ⟨ui, hui, rui⟩ := rl.get hzj
  obtain ⟨hjl, hje⟩ := List.getElem?_eq_some_iff.mp hui
  have hsl := sizeLine_eq
  have hnz : names.length ≤ sizeLine := by rw [List.length_map] at hz; exact hz
  refine call_meets PySem.F.slot_list_index ⟨_, el, rfl⟩ PySem.F.entry_list_index (PySem.F.args_list_index_2 _ _)
    (SeqAt.list_indexAt l its.toArray kk none #[] (Value.str m tm) (eqU (V.str m)) (names.idxOf m) (by simpa using hjl) (by omega) ?_ ?_) ⟨el, fun u' hu' => mem_eqAt ry rfl rl fys u' (by simpa using hu'), ?_⟩
  · have e1 : its.toArray[names.idxOf m]'(by simpa using hjl) = ui := by simpa using hje
    rw [e1, eqU_of rui rfl]
    show (m == m) = true
    exact beq_self_eq_true m
  · intro i hi hij
    have hil : i < its.length := by simpa using hi
    have hin : i < names.length := by omega
    have hy' : (names.map V.str)[i]? = some (.str names[i]) := by
      rw [List.getElem?_map, List.getElem?_eq_getElem hin]
      rfl
    obtain ⟨u2, hu2, ru2⟩ := rl.get hy'
    obtain ⟨_, hme⟩ := List.getElem?_eq_some_iff.mp hu2
    have e1 : its.toArray[i] = u2 := by simpa using hme
    rw [e1, eqU_of ru2 rfl]
    show (names[i] == m) = false
    exact beq_eq_false_iff_ne.mpr (idx_before hin hij)
  · exact ⟨_, _, rfl, rfl⟩
def spOrdered (T : List (Addr × Str)) : Sp := fun vs H Q _ => ∃ (S : Addr → Prop) (ls : List (Str × Bool)) (v : V) (l : Addr) (names : List Str), vs = [.ref l, v] ∧ H l = some (.lst (names.map V.str)) ∧ Rep S H (litsD ls) v ∧ (∀ x ∈ ls, x.1 ∈ names) ∧ ls.length ≤ 1000 ∧ Tabs T H ∧
  ∀ H' r, ExtN H H' → Tabs T H' → Rep (NewN H) H' (litsD (sortLits names ls)) r → Q r H'
theorem ok_ordered {T : List (Addr × Str)} (B : Bt mg) (N : DnC K mg "_law_ordered" sOrdered ["names", "clause"]) (TB : TabB base mg N.c N.t) (hmT : (N.t, ("_law_ordered.<locals>.<lambda>" : Str)) ∈ T) (hu : ∀ p ∈ T, p.1 = N.t → p.2 = "_law_ordered.<locals>.<lambda>") :
    FnOk P w K mg base CX0 2 N.f N.fd ["names", "clause"] (spOrdered T) := by
  refine N.F.ok scOrdered (fun vs H Q E h => ?_) (fun A outer s H vs Q E hr h => ?_)
  · obtain ⟨S, ls, v, l, names, rfl, _⟩ := h
    rfl
  · obtain ⟨S, ls, v, l, names, rfl, hpl, hd, hin, hn, hT, k⟩ := h
    refine ⟨_, pss_one (ps_ret (pe_sortLam (T := T) keyIx (by rfl) B.sorted (pa_cons (pv 1) pa_nil) TB rfl hmT hu hr ⟨rfl, rfl, rfl, by rfl, by decide +kernel, (by show ∀ (y : Str × NameKind), y ∈ _ → y.2 = NameKind.free → (defScope sOrdered).names.lookup y.1 = some .cell ∨ (defScope sOrdered).names.lookup y.1 = some .free; decide +kernel)⟩ rfl (fun q cl pm cv ctv u => by rfl)
      (body_index rfl rfl (by rfl) (by rfl) rfl))), ?_⟩
    obtain ⟨a, us, rfl, sa, ha, r⟩ := hd
    obtain ⟨e1, e2⟩ := reps_lits r
    have hlen : us.length = ls.length := by rw [← e1, List.length_map]
    have hmem : ∀ v ∈ us, litAt H v ∈ ls := fun v hv => by rw [← e1]; exact List.mem_map_of_mem hv
    refine ⟨_, rfl, a, us, (fun v => ((names.idxOf (litAt H v).1 : Nat) : Int)), rfl, SqL.of ha, by rw [hlen]; omega, hT, fun H2 e3 v hv => ?_, fun H2 p e3 T2 hp => ?_⟩
    · obtain ⟨t, ev, ht⟩ := e2 v hv
      exact ⟨l, t, names, _, _, rfl, e3 _ _ hpl (fun _ z => nomatch z), ev, e3 _ _ ht (fun _ z => nomatch z), hin _ (hmem v hv), rfl⟩
    · have e4 : Same H2 (upd H2 p (.lst (us.mergeSort fun x y => decide (((names.idxOf (litAt H x).1 : Nat) : Int) ≤ ((names.idxOf (litAt H y).1 : Nat) : Int))))) := Same.new hp
      refine k _ _ (e3.trans (extN_of e4)) (T2.ext e4) ⟨p, _, rfl, newN_of e3 hp, upd_same, ?_⟩
      have e5 : sortLits names ls = (us.mergeSort fun x y => decide (((names.idxOf (litAt H x).1 : Nat) : Int) ≤ ((names.idxOf (litAt H y).1 : Nat) : Int))).map (litAt H) := by
        unfold sortLits
        rw [← e1]
        exact (List.map_mergeSort (f := litAt H) (s := placeLe names) (fun _ _ _ _ => rfl)).symm
      rw [e5]
      refine reps_of fun v hv => ?_
      obtain ⟨t, ev, ht⟩ := e2 v (List.mem_mergeSort.mp hv)
      exact ⟨t, ev, e4 _ _ (e3 _ _ ht (fun _ z => nomatch z))⟩
end
end Q1

set_option Elab.async false
set_option maxRecDepth 100000
set_option maxHeartbeats 4000000
namespace Q1
open PySem L2 LamX PyProof.Rows
/-! ### a def that runs where nothing is being shown: repr -/
structure FnG (P : Program) (w : World) (K : PySem.W.Frag) (mg : Str → Option Value) (base : Heap) (CX : CXT) (k : Nat) (f : Addr) (fd : FuncData) (ps : List Str) (sp : Sp) : Prop where
  len : ∀ vs H Q E, sp vs H Q E → vs.length = ps.length
  run : ∀ (A : Around) (outer : List Env) (s : Shared) (H : Hp) (args : Args) (us : List Value) (vs : List V) (Q : VK) (E : XK), A.guards = some [] → Room k A → Env0 P w K mg base A outer s H → BindsTo s fd args (ps.zip us) → Vals vs us → sp vs H Q E →
    codeAny (model P w) A (.call (.ref f) args) (CR CX outer P w H s Q E) s
theorem call_reprD {X : Cx} (hg : X.A.guards = some []) (hu : X.A.units + 200 < cLine) : CallR X (.builtin "repr") (fun xs H Q => ∃ (a : Addr) (d : PyData), xs = [.ref a] ∧ Dp X.K H (.ref a) d ∧ d.showable = true ∧ d.hasDict = false ∧ d.depth ≤ 64 ∧ d.shown.length ≤ sizeLine ∧ Q (.str d.shown) H) := by
  intro pins s σ H xs us Q I r h
  obtain ⟨a, d, rfl, hd, h1, h2, h3, h4, q⟩ := h
  obtain ⟨u, rfl, rx⟩ := vals1 r
  cases rx
  obtain ⟨as, rd⟩ := Dp.reads I d (.ref a) (Value.ref a) hd rfl
  refine PySem.repr_of_reads' rd h1 (fun z => by rw [h2] at z; cases z) hg (by omega) (fun _ _ e => e) (fun h' u tk hk => ?_) h4
  exact ⟨.str d.shown, H, I.kept (t' := tk) hk, ⟨_, rfl⟩, q⟩

theorem FnG.of {P : Program} {w : World} {K : PySem.W.Frag} {mg : Str → Option Value} {base : Heap} {CX : CXT} {k : Nat} {f : Addr} {fd : FuncData} {ps : List Str} {sp : Sp} (F : FnOk P w K mg base CX k f fd ps sp) : FnG P w K mg base CX k f fd ps sp :=
  ⟨F.len, fun A outer s H args us vs Q E _ hr => F.run A outer s H args us vs Q E hr⟩
theorem FnG.fn {P : Program} {w : World} {K : PySem.W.Frag} {mg : Str → Option Value} {base : Heap} {x qual : Str} {st : Stmt} {f : Addr} {fd : FuncData} {N ps : List Str} {k : Nat} {sp : Sp} (F : Fun K x qual st f fd) (S : FnScope N ps (defScope st)) (len : ∀ vs H Q E, sp vs H Q E → vs.length = ps.length)
    (body : ∀ (cdv : Value) (A : Around) (outer : List Env) (s : Shared) (H : Hp) (vs : List V) (Q : VK) (E : XK), A.guards = some [] → Room k (A.deeper (envOfC qual (defScope st) s.heap.objs.size f cdv)) → sp vs H Q E →
      ∃ t, PSs (cxOf CX0 P w K mg base N qual (defScope st) f cdv A outer s H E).nox (defBody st) t ∧ t { nx := fun _ H' => Q .non H', rt := Q } (L2.start N vs) H) : FnG P w K mg base CX0 (k + 1) f fd ps sp := by
  obtain ⟨oc, od, kV, doc, pm, an, cdv, ct, osl, rfl, lk, hcd⟩ := F.ex
  refine ⟨len, fun A outer s H args us vs Q E hgd hr e0 hb r hsp => ?_⟩
  have hlen := len _ _ _ _ hsp
  have KX : K.In s.heap := e0.mod.kin.keeps fun b o e => (e0.bs b o e).1
  have lim : s.heap.NoLimit := e0.mod.nolimit.keeps fun b o e => (e0.bs b o e).1
  have kinds : ∀ y ∈ ps.zip us, (defScope st).names.lookup y.1 = some .local ∨ ((defScope st).names.lookup y.1 = some .cell ∧ ((cellsFrom (s.heap.objs.size + 1) (defScope st).names []).lookup y.1).isSome = true) := fun ⟨n, v⟩ hy => by
    rcases S.par n (List.of_mem_zip hy).1 with q | q
    · exact .inl q
    · exact .inr ⟨q, PySem.W.cellsFrom_some _ _ _ (.inl q)⟩
  refine codeAny_call_function hr.depth (KX _ _ lk) rfl S.co S.gen rfl (PySem.W.codeRec_of KX hcd) (hb _ _ _ _ ?_)
  refine wpAny_newFunctionEnv_cells S.kind kinds fun env he s1 x => ?_
  subst he
  refine ⟨lim.keeps x.toInCall.keep, codeAny_func ?_⟩
  obtain ⟨t, ht0, hq⟩ := body cdv A outer s H vs Q E hgd (hr.deeper _) hsp
  have ht := ht0.nox
  have I0 : L2.Inv (cxOf CX0 P w K mg base N qual (defScope st) f cdv A outer s H E) [] (L2.start N vs) H s1 := inv_start S hr.hd e0 hlen r x
  refine wpAny_mono (ht.run [] s1 (L2.start N vs) H _ I0 hq) (fun fl s' hs => ?_) fun e s' hs => hs
  have done : ∀ {σ' : L2.St} {H' : Hp} {v : V} {u : Value}, L2.Inv (cxOf CX0 P w K mg base N qual (defScope st) f cdv A outer s H E) [] σ' H' s' → L2.RelV v u → Q v H' → CE outer P w H s Q u s' :=
    fun {σ' H' v u} J rv q => ⟨v, H', J.os, J.bare, J.base, J.hok, rv, q⟩
  cases fl with
  | ret u =>
    obtain ⟨v, σ', H', J, rv, q⟩ := hs
    exact done J rv q
  | next =>
    obtain ⟨σ', H', J, q⟩ := hs
    exact done (v := V.non) (u := Value.none) J rfl q
  | brk =>
    obtain ⟨_, _, _, q⟩ := hs
    exact q.elim
  | cont =>
    obtain ⟨_, _, _, q⟩ := hs
    exact q.elim
theorem deeper_guards {A : Around} {env : Env} (h : A.guards = some []) : (A.deeper env).guards = some [] := h
section
variable {X : Cx} {CX : CXT} {k : Nat} {f : Addr} {fd : FuncData} {ps : List Str} {sp : Sp} {dvs : List V} {ds : List Value} {E : XK} {x : Str} {p pos : Pos} {e : Expr} {es : List Expr} {t : TA}
theorem pe_callG (F : FnG X.prog X.w X.K X.mg X.base CX k f fd ps sp) (hgd : X.A.guards = some []) (hr : Room k X.A) (hg : Gl X x) (hm : X.mg x = some (.ref f)) (hk : PySem.W.keepIn X.K (.ref f) = true) (hb : Binds X.K fd ps ds) (hd : Vals dvs ds) (hx : Passes CX X E)
    (ha : PA X (e :: es) t) (hdb : (x == ("__debug__" : Str)) = false := by decide) (he : starEach (e :: es) X.env = (false, eval e X.env) :: starEach es X.env := by rfl) (hpl : (backTo pos (starEach es X.env)).any (·.1) = false := by rfl) :
    PE X (.Call (.Name x p) (e :: es) [] pos) (tCall sp dvs E t) := by
  refine ⟨fun pins s σ H Q I h => ?_⟩
  refine wpAny_Call_Name_kw (ld_glob I hg hm ?_ hdb)
  refine PySem.W.callWith_K (h₀ := X.base) I.ok.mod.kin hk (thn (ha.run pos pins s σ H _ I h) fun us s1 ⟨vs, H1, I1, r, q⟩ => ⟨I1.kIn, ?_⟩) he hpl
  have r2 : Vals (vs ++ dvs) (us ++ ds) := r.append hd
  have hlen : (us ++ ds).length = ps.length := by rw [← r2.length]; exact F.len _ _ _ _ q
  refine wpAny_call (codeAny_mono (F.run X.A X.stack s1 H1 ⟨us, []⟩ (us ++ ds) (vs ++ dvs) Q E hgd hr I1.env0 (hb s1 us I1.kIn hlen) r2 q) fun r s' hq => ?_)
  cases r with
  | error e => exact hx pins σ H1 s1 e s' I1 hq
  | ok fl =>
    cases fl with
    | ret u => exact I1.after hq
    | next => exact hq.elim
    | brk => exact hq.elim
    | cont => exact hq.elim
end
end Q1

set_option Elab.async false
set_option maxRecDepth 100000
set_option maxHeartbeats 4000000
namespace Q1
open PySem L2 LamX PyProof.Rows
mutual
theorem Loose.refl : ∀ d : D, Loose d d
  | .lst xs => ⟨xs, rfl, Looses.refl xs⟩
  | .tup xs => ⟨xs, rfl, Looses.refl xs⟩
  | .non => rfl
  | .bl _ => rfl
  | .int _ => rfl
  | .str _ => rfl
  | .dic => rfl
theorem Looses.refl : ∀ ds : List D, Looses ds ds
  | [] => rfl
  | d :: ds => ⟨d, ds, rfl, Loose.refl d, Looses.refl ds⟩
end
/-- the first lists have grown by 'late' -/
def lateAt : Nat → List (List D) → List (List D)
  | 0, ds => ds
  | _, [] => []
  | t + 1, d :: ds => (d ++ [.str "late"]) :: lateAt t ds
theorem lateAt_length : ∀ (t : Nat) (ds : List (List D)), (lateAt t ds).length = ds.length
  | 0, _ => by unfold lateAt; rfl
  | _ + 1, [] => rfl
  | t + 1, d :: ds => by
    show (lateAt t ds).length + 1 = ds.length + 1
    rw [lateAt_length t ds]
theorem lateAt_get : ∀ (t : Nat) (ds : List (List D)) (i : Nat), (lateAt t ds)[i]? = (ds[i]?).map (fun d => if i < t then d ++ [.str "late"] else d)
  | 0, ds, i => by
    unfold lateAt
    cases ds[i]? <;> simp
  | t + 1, [], i => by simp [lateAt]
  | t + 1, d :: ds, 0 => by simp [lateAt]
  | t + 1, d :: ds, i + 1 => by
    show (lateAt t ds)[i]? = (ds[i]?).map _
    rw [lateAt_get t ds i]
    cases ds[i]? with
    | none => rfl
    | some x =>
      simp only [Option.map_some, Nat.add_lt_add_iff_right]
theorem ListsAt.push {H : Hp} {as : List Addr} {ds : List (List D)} {t : Nat} {a : Addr} {us : List V} (h : ListsAt H as (lateAt t ds)) (nd : as.Nodup) (ha : as[t]? = some a) (h1 : H a = some (.lst us)) :
    ListsAt (upd H a (.lst (us ++ [.str "late"]))) as (lateAt (t + 1) ds) := by
  have st : Stay (fun _ => False) H (upd H a (.lst (us ++ [.str "late"]))) := stay_upd h1 (nd_lst fun z => z)
  have hl := h.1
  rw [lateAt_length] at hl
  refine ⟨by rw [lateAt_length]; exact hl, fun i b e hb he => ?_⟩
  rw [lateAt_get] at he
  have hil : i < ds.length := by rw [← hl]; exact (List.getElem?_eq_some_iff.mp hb).1
  rw [List.getElem?_eq_getElem hil] at he
  have he : (if i < t + 1 then ds[i] ++ [.str "late"] else ds[i]) = e := Option.some.inj he
  by_cases q : i = t
  · subst q
    rw [ha] at hb
    cases hb
    rw [if_pos (Nat.lt_succ_self _)] at he
    subst he
    obtain ⟨vs, h2, h3⟩ := h.2 i a ds[i] ha (by rw [lateAt_get, List.getElem?_eq_getElem hil]; simp)
    rw [h1] at h2
    cases h2
    exact ⟨_, upd_same, Reps.append (Reps.mono (fun _ z => z) st h3) (Reps.one rfl)⟩
  · have nb : b ≠ a := fun z => by
      subst z
      exact q ((List.getElem?_inj (List.getElem?_eq_some_iff.mp hb).1 nd).mp (hb.trans ha.symm))
    have e2 : e = (if i < t then ds[i] ++ [.str "late"] else ds[i]) := by
      rw [← he]
      by_cases z : i < t
      · rw [if_pos z, if_pos (by omega)]
      · rw [if_neg z, if_neg (by omega)]
    obtain ⟨vs, h2, h3⟩ := h.2 i b e hb (by rw [lateAt_get, List.getElem?_eq_getElem hil, e2]; rfl)
    exact ⟨vs, by rw [upd_ne nb]; exact h2, Reps.mono (fun _ z => z) st h3⟩
theorem ListsAt.rep {H : Hp} {as : List Addr} {ds : List (List D)} {l : Addr} (h : ListsAt H as ds) (hl : H l = some (.lst (as.map V.ref))) : Rep (fun _ => True) H (.lst (ds.map D.lst)) (.ref l) :=
  ⟨l, _, rfl, trivial, hl, reps_refs h.1 fun i a d ha hd => by
    obtain ⟨vs, h1, h2⟩ := h.2 i a d ha hd
    exact ⟨a, vs, rfl, trivial, h1, Reps.mono (fun _ z => z.elim) (fun _ _ e _ => e) h2⟩⟩
/-- all but these lists stays -/
def SameL (as : List Addr) (H H' : Hp) : Prop := ∀ a o, a ∉ as → H a = some o → H' a = some o
theorem SameL.same {as : List Addr} {H0 H H' : Hp} (h : SameL as H H') (s : Same H0 H) (n : ∀ a ∈ as, H0 a = none) : Same H0 H' := fun a o e => h a o (fun z => by rw [n a z] at e; cases e) (s a o e)
theorem SameL.lists {as bs : List Addr} {ds : List (List D)} {H H' : Hp} (h : SameL as H H') (n : ∀ a ∈ bs, a ∉ as) (nt : ∀ a ∈ as, ∃ us, H a = some (.lst us)) (k : ListsAt H bs ds) : ListsAt H' bs ds :=
  k.stay fun a o e nd => by
    by_cases z : a ∈ as
    · obtain ⟨us, hu⟩ := nt a z
      rw [hu] at e
      cases e
      rcases nd with ⟨_, _, q⟩ | ⟨_, q⟩ | q
      · exact absurd z (n a q)
      · cases q
      · cases q
    · exact h a o z e
theorem ListsAt.lst {H : Hp} {as : List Addr} {ds : List (List D)} (h : ListsAt H as ds) : ∀ a ∈ as, ∃ us, H a = some (.lst us) := fun a ha => by
  obtain ⟨i, hi⟩ := List.mem_iff_getElem?.mp ha
  have hl : i < ds.length := by rw [← h.1]; exact (List.getElem?_eq_some_iff.mp hi).1
  obtain ⟨vs, h1, _⟩ := h.2 i a ds[i] hi (List.getElem?_eq_getElem hl)
  exact ⟨vs, h1⟩
theorem goodQ_apart {ps : List (Str × D)} {cw cg : List (List (Str × Bool))} (g : GoodQ ps cw cg) : GoodQ ps (cw.take 7 ++ cw.take 7 ++ [[], []]) (cg.take 7 ++ cg.take 7) := by
  refine ⟨g.nd, g.nm, g.hd, fun c hc => ?_, fun c hc => ?_, ?_, ?_, g.pl⟩
  · rcases List.mem_append.mp hc with hc | hc
    · rcases List.mem_append.mp hc with hc | hc <;> exact g.w c (List.mem_of_mem_take hc)
    · simp only [List.mem_cons, List.not_mem_nil, or_false, or_self] at hc
      rw [hc]
      exact List.nil_sublist _
  · rcases List.mem_append.mp hc with hc | hc <;> exact g.g c (List.mem_of_mem_take hc)
  · simp only [List.length_append, List.length_take, List.length_cons, List.length_nil]
    omega
  · simp only [List.length_append, List.length_take]
    omega
end Q1

set_option Elab.async false
set_option maxRecDepth 100000
set_option maxHeartbeats 4000000
namespace Q1
open PySem L2 LamX PyProof.Rows
theorem Reps.take {S : Addr → Prop} {H : Hp} : ∀ {ds : List D} {vs : List V} (n : Nat), Reps S H ds vs → Reps S H (ds.take n) (vs.take n)
  | _, _, 0, _ => rfl
  | [], _, n + 1, h => by cases (show _ = [] from h); rfl
  | d :: ds, _, n + 1, h => by
    obtain ⟨v, r, rfl, h1, h2⟩ := h
    exact ⟨v, _, rfl, h1, Reps.take n h2⟩
theorem cut7 (xs : List V) : cutV xs none (some 7) = xs.take 7 := cutV_take xs 7
section
variable {P : Program} {w : World} {K : PySem.W.Frag} {mg : Str → Option Value} {base : Heap}
/-! ### _law_apart -/
abbrev sApart : Stmt := top 44
abbrev nApart : List Str := ["question", "marks", "wishes", "guards", "both", "made", "some", "told", "at", "due", "place", "clause"]
theorem scApart : FnScope nApart ["question"] (defScope sApart) := ⟨rfl, rfl, rfl, by decide +kernel, rfl, by decide +kernel, by decide +kernel⟩
def spApart (T : List (Addr × Str)) : Sp := fun vs H Q _ => ∃ (S : Addr → Prop) (r : Addr) (ps : List (Str × D)) (cw cg : List (List (Str × Bool))), vs = [.ref r] ∧ Rep S H (qD ps cw cg) (.ref r) ∧ GoodQ ps cw cg ∧ Tabs T H ∧
  ∀ H', ExtN H H' → Tabs T H' → Q (.bl true) H'
theorem ok_apart {T : List (Addr × Str)} (B : Bt mg) (W : Qw K mg) (TT : Tq base T W) (M : Mt K W.Z.C) (N : Dn K mg "_law_apart" sApart ["question"]) (NS : Dn K mg "_law_same" sSame ["found", "wanted"]) :
    FnOk P w K mg base CX0 7 N.f N.fd ["question"] (spApart T) := by
  have GI : FnOk P w K mg base (L2.CX P w) 5 W.fi W.fdi ["self", "marks", "wishes", "guards"] (spInit W.Z.C W.Y.e2.C W.Y.e3.C W.Y.e4.C T) := ok_init B W.Cc W.Z W.Y W.F TT.TB TT.hm TT.hu
  have GW : FnOk P w K mg base CX0 1 M.fw M.fdw ["self"] (spWishes W.Z.C false) := ok_wishes B W.Z M.Fw
  have GG : FnOk P w K mg base CX0 1 M.fg M.fdg ["self"] (spWishes W.Z.C true) := ok_guards B W.Z M.Fg
  have GS : FnOk P w K mg base CX0 5 NS.f NS.fd ["found", "wanted"] (spSame 4) := ok_same B NS 4
  refine N.F.ok scApart (fun vs H Q E h => ?_) (fun cdv A outer s H vs Q E hr h => ?_)
  · obtain ⟨S, r, ps, cw, cg, rfl, _⟩ := h
    rfl
  · obtain ⟨S, r, ps, cw, cg, rfl, hq, g, t0, k⟩ := h
    refine ⟨_, pss_cons (ps_par3 (i := 1) (j := 2) (l := 3) (by rfl) scApart.nd rfl rfl rfl (by decide) (by decide) (by decide) rfl rfl rfl
        (pa_cons (pe_ix ix_tup (pv 0) pe_int (fun _ _ => rfl)) (pa_cons (pe_slice sl_list (pe_ix ix_tup (pv 0) pe_int (fun _ _ => rfl)) po_none (po_some pe_int)) (pa_cons (pe_slice sl_list (pe_ix ix_tup (pv 0) pe_int (fun _ _ => rfl)) po_none (po_some pe_int)) pa_nil))) (by rfl))
      (pss_cons (ps_set (i := 4) scApart.nd rfl (Or.inl rfl) (pe_lst (pa_cons (pe_op op_cat (pe_op op_cat (pv 2) (pv 2)) (pe_lst (pa_cons (pe_lst pa_nil) (pa_cons (pe_lst pa_nil) pa_nil)))) (pa_cons (pe_op op_cat (pv 3) (pv 3)) pa_nil))))
      (pss_cons (ps_set (i := 5) scApart.nd rfl (Or.inl rfl) (pe_make W.M GI hr (by rfl) W.Z.g W.bi .nil passL (pa_cons (pv 1) (pa_cons (pe_ix ix_list (pv 4) pe_int (fun _ _ => rfl)) (pa_cons (pe_ix ix_list (pv 4) pe_int (fun _ _ => rfl)) pa_nil)))))
      (pss_cons (ps_for PassesOwn.never rfl (pi_zip (by rfl) B.zip (pa_cons (pv 4) (pa_cons (pe_lst (pa_cons (pe_meth0 (pv 5) W.Z.cl M.mw GW (hr.mono (by decide)) M.bw .nil pass0) (pa_cons (pe_meth0 (pv 5) W.Z.cl M.mg GG (hr.mono (by decide)) M.bg .nil pass0) pa_nil))) pa_nil)))
          (pg_tup rfl (pgs_cons (pg_name (i := 6) scApart.nd rfl (Or.inl rfl)) (pgs_cons (pg_name (i := 7) scApart.nd rfl (Or.inl rfl)) pgs_nil)))
        (pss_one (ps_for PassesOwn.never rfl (pi_range1 (by rfl) B.range (pa_cons (pe_callB call_len_seq (by rfl) B.len boot_len (pa_cons (pv 6) pa_nil)) pa_nil)) (pg_name (i := 8) scApart.nd rfl (Or.inr rfl))
          (pss_cons (ps_expr (pe_bm PySem.F.plainAttrs_list PySem.F.slot_list_append PySem.F.type_list_append mt_append (pe_ix ix_list (pv 7) (pv 8) (fun _ _ => rfl)) (pa_cons pe_str pa_nil)))
          (pss_cons (ps_setLc (i := 9) (own := [("place", 10), ("clause", 11)]) (g := gTup K 2 (gCons (gName 10) (gCons (gName 11) gNil))) (tt := tYes) (te := tOp rCat (tVar 11) (tOp rRep (tLst (tCons (tC (.str "late")) tNil)) (tCB rInt1 (tCons (tLe (tVar 10) (tVar 8)) tNil)))) (by rfl) scApart.nd rfl rfl (sw_true rfl rfl rfl (by decide +kernel)) (pi_enum (by rfl) B.enumerate (pa_cons (pv 6) pa_nil)) (blkOk_by (own := [("place", 10), ("clause", 11)]) (N := nApart) (sc := defScope sApart) (by decide +kernel))
            (fun _ _ _ _ _ => pg_tup (by rfl) (pgs_cons (pg_name (i := 10) scApart.nd (by rfl) (Or.inl (by rfl)) (by exact .inr rfl)) (pgs_cons (pg_name (i := 11) scApart.nd (by rfl) (Or.inl (by rfl)) (by exact .inr rfl)) pgs_nil))) (fun _ _ _ _ _ => pts_nil)
            (fun _ _ _ _ _ => pe_op op_cat (pv 11) (pe_op op_rep (pe_lst (pa_cons pe_str pa_nil)) (pe_callTy call_int1' (by rfl) B.int PyProof.Rows.boot_int (pa_cons (pe_cmp (pc_le (pv 10) (pv 8)) (by rfl)) pa_nil)))))
          (pss_one (ps_if (pt_not (pt_val (pe_call GS (hr.mono (by decide)) (by rfl) NS.g NS.F.kp NS.b .nil pass0 (pa_cons (pv 7) (pa_cons (pv 9) pa_nil))) (fun _ => rfl))) pss_never pss_nil)))))))
      (pss_one (ps_ret pe_bl))))), ?_⟩
    obtain ⟨_, _, er, hr0, m, _, rfl, rm, wv, _, rfl, rw1, gv, _, rfl, rg1, rfl⟩ := hq
    cases er
    obtain ⟨wl, wus, rfl, swl, hwl, rwus⟩ := rw1
    obtain ⟨gl, gus, rfl, sgl, hgl, rgus⟩ := rg1
    have lw := g.lw
    have lg := g.lg
    have hwul := rwus.length
    have hgul := rgus.length
    rw [List.length_map] at hwul hgul
    have ok : ∀ n : Nat, n ≤ 1000 → n ≤ sizeLine := fun n h => Nat.le_trans h (by decide)
    refine ⟨_, rfl, r, _, 0, m, rfl, rfl, SqT.of hr0, atI_nat (j := 0) rfl, _, rfl, r, _, 1, .ref wl, rfl, rfl, SqT.of hr0, atI_nat (j := 1) rfl, 7, rfl, wl, wus, rfl, SqL.of hwl, fun p1 hp1 => ?_⟩
    rw [cut7]
    have s1 : Same H (upd H p1 (.lst (wus.take 7))) := Same.new hp1
    have h1 : upd H p1 (.lst (wus.take 7)) p1 = some (.lst (wus.take 7)) := upd_same
    generalize upd H p1 (.lst (wus.take 7)) = H1 at s1 h1 ⊢
    refine ⟨_, rfl, r, _, 2, .ref gl, rfl, rfl, SqT.of (s1 _ _ hr0), atI_nat (j := 2) rfl, 7, rfl, gl, gus, rfl, SqL.of (s1 _ _ hgl), fun p2 hp2 => ⟨_, _, _, rfl, ?_⟩⟩
    rw [cut7]
    have s2 : Same H1 (upd H1 p2 (.lst (gus.take 7))) := Same.new hp2
    have h2 : upd H1 p2 (.lst (gus.take 7)) p2 = some (.lst (gus.take 7)) := upd_same
    generalize upd H1 p2 (.lst (gus.take 7)) = H2 at s2 h2 ⊢
    refine ⟨_, rfl, _, rfl, p1, p1, _, _, rfl, rfl, s2 _ _ h1, s2 _ _ h1, ok _ (by rw [List.length_take]; omega), fun q1 hq1 => ?_⟩
    have s3 : Same H2 (upd H2 q1 (.lst (wus.take 7 ++ wus.take 7))) := Same.new hq1
    have h3 : upd H2 q1 (.lst (wus.take 7 ++ wus.take 7)) q1 = some (.lst (wus.take 7 ++ wus.take 7)) := upd_same
    generalize upd H2 q1 (.lst (wus.take 7 ++ wus.take 7)) = H3 at s3 h3 ⊢
    refine ⟨Nat.zero_le _, fun e1 he1 => ?_⟩
    have s4 : Same H3 (upd H3 e1 (.lst [])) := Same.new he1
    have h4 : upd H3 e1 (.lst []) e1 = some (.lst []) := upd_same
    generalize upd H3 e1 (.lst []) = H4 at s4 h4 ⊢
    refine ⟨Nat.zero_le _, fun e2 he2 => ?_⟩
    have s5 : Same H4 (upd H4 e2 (.lst [])) := Same.new he2
    have h5 : upd H4 e2 (.lst []) e2 = some (.lst []) := upd_same
    generalize upd H4 e2 (.lst []) = H5 at s5 h5 ⊢
    refine ⟨by show 2 ≤ sizeLine; decide, fun q2 hq2 => ?_⟩
    have s6 : Same H5 (upd H5 q2 (.lst [.ref e1, .ref e2])) := Same.new hq2
    have h6 : upd H5 q2 (.lst [.ref e1, .ref e2]) q2 = some (.lst [.ref e1, .ref e2]) := upd_same
    generalize upd H5 q2 (.lst [.ref e1, .ref e2]) = H6 at s6 h6 ⊢
    have s36 := (s4.trans s5).trans s6
    refine ⟨q1, q2, _, _, rfl, rfl, s36 _ _ h3, h6, ok _ (by simp only [List.length_append, List.length_take, List.length_cons, List.length_nil]; omega), fun q3 hq3 => ?_⟩
    have s7 : Same H6 (upd H6 q3 (.lst (wus.take 7 ++ wus.take 7 ++ [.ref e1, .ref e2]))) := Same.new hq3
    have h7 : upd H6 q3 (.lst (wus.take 7 ++ wus.take 7 ++ [.ref e1, .ref e2])) q3 = some (.lst (wus.take 7 ++ wus.take 7 ++ [.ref e1, .ref e2])) := upd_same
    generalize upd H6 q3 (.lst (wus.take 7 ++ wus.take 7 ++ [.ref e1, .ref e2])) = H7 at s7 h7 ⊢
    have s27 := (s3.trans s36).trans s7
    refine ⟨_, rfl, _, rfl, p2, p2, _, _, rfl, rfl, s27 _ _ h2, s27 _ _ h2, ok _ (by rw [List.length_take]; omega), fun q4 hq4 => ?_⟩
    have s8 : Same H7 (upd H7 q4 (.lst (gus.take 7 ++ gus.take 7))) := Same.new hq4
    have h8 : upd H7 q4 (.lst (gus.take 7 ++ gus.take 7)) q4 = some (.lst (gus.take 7 ++ gus.take 7)) := upd_same
    generalize upd H7 q4 (.lst (gus.take 7 ++ gus.take 7)) = H8 at s8 h8 ⊢
    refine ⟨by show 2 ≤ sizeLine; decide, fun b hb => ?_⟩
    have s9 : Same H8 (upd H8 b (.lst [.ref q3, .ref q4])) := Same.new hb
    have h9 : upd H8 b (.lst [.ref q3, .ref q4]) b = some (.lst [.ref q3, .ref q4]) := upd_same
    generalize upd H8 b (.lst [.ref q3, .ref q4]) = H9 at s9 h9 ⊢
    have sH9 := (((s1.trans s2).trans s27).trans s8).trans s9
    have r3 : Rep (fun _ => True) H9 (clausesD (cw.take 7 ++ cw.take 7 ++ [[], []])) (.ref q3) := by
      refine ⟨q3, _, rfl, trivial, (s8.trans s9) _ _ h7, ?_⟩
      have a1 : Reps (fun _ => True) H9 ((cw.take 7).map litsD) (wus.take 7) := by
        rw [List.map_take]
        exact Reps.mono (fun _ _ => trivial) (stay_of sH9) (rwus.take 7)
      rw [List.map_append, List.map_append]
      refine (a1.append a1).append ⟨.ref e1, _, rfl, ⟨e1, [], rfl, trivial, ?_, rfl⟩, .ref e2, _, rfl, ⟨e2, [], rfl, trivial, ?_, rfl⟩, rfl⟩
      · exact (((s5.trans s6).trans s7).trans (s8.trans s9)) _ _ h4
      · exact ((s6.trans s7).trans (s8.trans s9)) _ _ h5
    have r4 : Rep (fun _ => True) H9 (clausesD (cg.take 7 ++ cg.take 7)) (.ref q4) := by
      refine ⟨q4, _, rfl, trivial, s9 _ _ h8, ?_⟩
      have a1 : Reps (fun _ => True) H9 ((cg.take 7).map litsD) (gus.take 7) := by
        rw [List.map_take]
        exact Reps.mono (fun _ _ => trivial) (stay_of sH9) (rgus.take 7)
      rw [List.map_append]
      exact a1.append a1
    have g2 := goodQ_apart g
    obtain ⟨cw2, hcw2⟩ : ∃ c, c = cw.take 7 ++ cw.take 7 ++ [[], []] := ⟨_, rfl⟩
    obtain ⟨cg2, hcg2⟩ : ∃ c, c = cg.take 7 ++ cg.take 7 := ⟨_, rfl⟩
    rw [← hcw2] at r3 g2
    rw [← hcg2] at r4 g2
    refine ⟨_, rfl, _, rfl, b, _, 0, .ref q3, rfl, rfl, SqL.of h9, atI_nat (j := 0) rfl, _, rfl, b, _, 1, .ref q4, rfl, rfl, SqL.of h9, atI_nat (j := 1) rfl, fun x dx nx ndx ne => ?_⟩
    refine mk_good (S := fun _ => True) g2 nx ndx ne (Rep.mono (fun _ _ => trivial) (stay_of sH9) rm) r3 r4 (Loose.refl _) (Loose.refl _) (Loose.refl _) (Mx.refl _) (Mx.refl _) (t0.ext sH9) fun HA eA tA qa => ⟨rfl, ?_⟩
    have r3A := r3.extN eA
    have r4A := r4.extN eA
    have hbA := eA _ _ h9 (fun _ z => nomatch z)
    obtain ⟨dx2, n2, hA2, pA2, wlA, glA, wcA, wtA, gcA, gtA, ax, _⟩ := id qa
    have lw2 := g2.lw
    have lg2 := g2.lg
    have eHA := (extN_of sH9).trans eA
    refine ⟨_, rfl, _, rfl, x, dx2, _, rfl, ax, rfl, _, x, ps, cw2, cg2, rfl, qa, (by show cw2.length ≤ 1000; omega), fun HB rB sB nwB => ?_⟩
    have qB := qa.same sB
    refine ⟨_, rfl, x, dx2, _, rfl, sB _ _ ax, rfl, _, x, ps, cw2, cg2, rfl, qB, (by show cg2.length ≤ 1000; omega), fun HC rC sC nwC => ?_⟩
    refine ⟨by show 2 ≤ sizeLine; decide, fun pT hpT => ?_⟩
    obtain ⟨l0, as0, rfl, nl0, hl0, nm0, nd0, nn0, la0⟩ := nwB
    obtain ⟨l1, as1, rfl, nl1, hl1, nm1, nd1, nn1, la1⟩ := nwC
    have sT : Same HC (upd HC pT (.lst [.ref l0, .ref l1])) := Same.new hpT
    have hT : upd HC pT (.lst [.ref l0, .ref l1]) pT = some (.lst [.ref l0, .ref l1]) := upd_same
    generalize upd HC pT (.lst [.ref l0, .ref l1]) = HD at sT hT ⊢
    have sBD := sC.trans sT
    have sAD := sB.trans sBD
    have ex0 := la0.lst
    have ex1 := la1.lst
    have x0 : ∀ a ∈ as0, a ∉ as1 := fun a h0 h1 => by
      obtain ⟨us, hu⟩ := ex0 a h0
      rw [nn1 a h1] at hu
      cases hu
    have n01 : l0 ∉ as1 := fun z => by rw [nn1 _ z] at hl0; cases hl0
    have n10 : l1 ∉ as0 := fun z => by
      obtain ⟨us, hu⟩ := ex0 _ z
      rw [nl1] at hu
      cases hu
    have nT0 : pT ∉ as0 := fun z => by
      obtain ⟨us, hu⟩ := ex0 _ z
      rw [sC _ _ hu] at hpT
      cases hpT
    have nT1 : pT ∉ as1 := fun z => by
      obtain ⟨us, hu⟩ := ex1 _ z
      rw [hu] at hpT
      cases hpT
    have nnA1 : ∀ a ∈ as1, HA a = none := fun a z => none_back sB (nn1 a z)
    have r3B := id r3A
    have r4B := id r4A
    obtain ⟨_, v3, e3, _, hv3, rv3⟩ := r3B
    obtain ⟨_, v4, e4, _, hv4, rv4⟩ := r4B
    cases e3
    cases e4
    have c13 : ∀ c ∈ cw2, c.length ≤ 13 := inOrd_len g2.w (by rw [List.length_map]; exact g2.pl)
    have c13g : ∀ c ∈ cg2, c.length ≤ 13 := inOrd_len g2.g (by rw [List.length_map]; exact g2.pl)
    have lit_ok : ∀ c : List (Str × Bool), (c ∈ cw2 ∨ c ∈ cg2) → oks 1 (c.map litD) := fun c hc => oks_mem fun d hd => by
      obtain ⟨l, hl, rfl⟩ := List.mem_map.mp hd
      refine ⟨ok_str (qNames_ok _ (g2.nm _ ?_)), trivial, trivial⟩
      rcases hc with hc | hc
      · exact (g2.w c hc).subset (List.mem_map_of_mem hl)
      · exact (g2.g c hc).subset (List.mem_map_of_mem hl)
    obtain ⟨IV, hIV⟩ : ∃ IV : Nat → Hp → Prop, IV = fun i H' => Same HA H' ∧ H' pT = some (.lst [.ref l0, .ref l1]) ∧ H' l0 = some (.lst (as0.map V.ref)) ∧ H' l1 = some (.lst (as1.map V.ref)) ∧
      (i = 0 → ListsAt H' as0 (cw2.map fun c => c.map litD)) ∧ (i ≤ 1 → ListsAt H' as1 (cg2.map fun c => c.map litD)) := ⟨_, rfl⟩
    have fin : ∀ H', Same HA H' → Q (.bl true) H' := fun H' s => k H' (eHA.trans (extN_of s)) (tA.ext s)
    refine ⟨b, pT, _, _, rfl, SqL.of (sAD _ _ hbA), SqL.of hT, RZ.for_zipL (K := K) (a := b) (b := pT) (xs := [.ref q3, .ref q4]) (ys := [.ref l0, .ref l1]) rfl
      (fun i σ H' => (∃ o6 o7 o8 o9 o10 o11, σ = [some (.ref r), some m, some (.ref p1), some (.ref p2), some (.ref b), some (.ref x), o6, o7, o8, o9, o10, o11]) ∧ IV i H') ⟨⟨_, _, _, _, _, _, rfl⟩, by
        rw [hIV]
        exact ⟨sAD, hT, sBD _ _ hl0, sT _ _ hl1, fun _ => la0.stay (stay_of sBD), fun _ => la1.stay (stay_of sT)⟩⟩ (fun i σ H' z => by
        have z2 := z.2
        rw [hIV] at z2
        exact ⟨SqL.of (z2.1 _ _ hbA), SqL.of z2.2.1⟩) ?_ ?_⟩
    · rintro i xx yy T1 σ H' hx hy ⟨⟨o6, o7, o8, o9, o10, o11, rfl⟩, iv⟩ hT1
      have hi : i < 2 := (List.getElem?_eq_some_iff.mp hx).1
      rw [hIV] at iv
      obtain ⟨i1, i2, i3, i4, i5, i6⟩ := iv
      obtain ⟨pS, lT, as, cs, vs, rfl, rfl, hpS, rS, lcs, ccs, ocs, hlT, nlT, nd, nn, la, nx⟩ : ∃ (pS lT : Addr) (as : List Addr) (cs : List (List (Str × Bool))) (vs : List V), xx = .ref pS ∧ yy = .ref lT ∧ HA pS = some (.lst vs) ∧ Reps (fun _ => True) HA (cs.map litsD) vs ∧
          cs.length ≤ 22 ∧ (∀ c ∈ cs, c.length ≤ 13) ∧ (∀ c ∈ cs, oks 1 (c.map litD)) ∧ H' lT = some (.lst (as.map V.ref)) ∧ lT ∉ as ∧ as.Nodup ∧ (∀ a ∈ as, HA a = none) ∧ ListsAt H' as (cs.map fun c => c.map litD) ∧ ∀ H'', Same HA H'' → SameL as H' H'' → IV (i + 1) H'' := by
        match i, hi, hx, hy, i5, i6 with
        | 0, _, hx, hy, i5, i6 =>
          cases (show some (V.ref q3) = some xx from hx)
          cases (show some (V.ref l0) = some yy from hy)
          have k0 := i5 rfl
          refine ⟨q3, l0, as0, cw2, v3, rfl, rfl, hv3, rv3, lw2, c13, fun c hc => lit_ok c (.inl hc), i3, nm0, nd0, nn0, k0, fun H'' sA sl => ?_⟩
          rw [hIV]
          exact ⟨sA, sl _ _ nT0 i2, sl _ _ nm0 i3, sl _ _ n10 i4, fun z => (nomatch z), fun _ => sl.lists (fun a h1 h0 => x0 a h0 h1) k0.lst (i6 (by decide))⟩
        | 1, _, hx, hy, i5, i6 =>
          cases (show some (V.ref q4) = some xx from hx)
          cases (show some (V.ref l1) = some yy from hy)
          refine ⟨q4, l1, as1, cg2, v4, rfl, rfl, hv4, rv4, lg2, c13g, fun c hc => lit_ok c (.inr hc), i4, nm1, nd1, nnA1, i6 (by decide), fun H'' sA sl => ?_⟩
          rw [hIV]
          exact ⟨sA, sl _ _ nT1 i2, sl _ _ n01 i3, sl _ _ nm1 i4, fun z => (nomatch z), fun z => absurd z (by decide)⟩
      have hvl := rS.length
      rw [List.length_map] at hvl
      have hal : as.length = vs.length := by rw [la.1, List.length_map, hvl]
      have s2T : Same H' (upd H' T1 (.tup [.ref pS, .ref lT])) := Same.new hT1
      have hTT : upd H' T1 (.tup [.ref pS, .ref lT]) T1 = some (.tup [.ref pS, .ref lT]) := upd_same
      generalize upd H' T1 (.tup [.ref pS, .ref lT]) = HT at s2T hTT ⊢
      have sAT := i1.trans s2T
      refine ⟨T1, _, rfl, SqT.of hTT, rfl, ?_⟩
      refine ⟨_, _, rfl, _, _, rfl, rfl, ?_⟩
      refine ⟨_, rfl, pS, vs, rfl, .inl (SqL.of (sAT _ _ hpS)), (vs.length : Nat), rfl, by omega, by omega, for_range (lo := 0) (n := ((vs.length : Nat) : Int).toNat) (fun t σ H2 => (∃ o8 o9 o10 o11, σ = [some (.ref r), some m, some (.ref p1), some (.ref p2), some (.ref b), some (.ref x), some (.ref pS), some (.ref lT), o8, o9, o10, o11]) ∧ SameL as HT H2 ∧ ListsAt H2 as (lateAt t (cs.map fun c => c.map litD)))
        ⟨⟨_, _, _, _, rfl⟩, fun a o _ e => e, by unfold lateAt; exact la.stay (stay_of s2T)⟩ ?_ ?_⟩
      · rintro t σ H2 ht ⟨⟨o8, o9, o10, o11, rfl⟩, sl, la2⟩
        rw [Int.toNat_natCast] at ht
        rw [show (0 : Int) + (t : Nat) = (t : Nat) from Int.zero_add _]
        have hat : as[t]? = some as[t] := List.getElem?_eq_getElem (by omega)
        obtain ⟨us, h1⟩ := la2.lst _ (List.getElem_mem (by omega : t < as.length))
        have hlT2 : H2 lT = some (.lst (as.map V.ref)) := sl _ _ nlT (s2T _ _ hlT)
        have lus : us.length ≤ 100 := by
          have hcl : t < cs.length := by omega
          obtain ⟨ws, w1, w2⟩ := la2.2 t as[t] _ hat (by rw [lateAt_get, List.getElem?_map, List.getElem?_eq_getElem hcl]; rfl)
          rw [h1] at w1
          cases w1
          rw [w2.length]
          simp only [Nat.lt_irrefl, if_false, List.length_map]
          have := ccs _ (List.getElem_mem hcl)
          omega
        refine ⟨_, rfl, _, rfl, lT, _, t, .ref as[t], rfl, rfl, SqL.of hlT2, atI_nat (by rw [List.getElem?_map, hat]; rfl), .inl ⟨rfl, _, SqL.of h1⟩, as[t], us, .str "late", rfl, rfl, h1, Nat.lt_of_lt_of_le (show us.length < 1000 by omega) (by decide), ?_⟩
        have la3 := la2.push nd hat h1
        have sl3 : SameL as HT (upd H2 as[t] (.lst (us ++ [.str "late"]))) := fun a o na e => by
          rw [upd_ne (fun z => na (by rw [z]; exact List.getElem_mem _))]
          exact sl a o na e
        generalize upd H2 as[t] (.lst (us ++ [.str "late"])) = H3 at la3 sl3 ⊢
        have sA3 : Same HA H3 := sl3.same sAT nn
        have hlT3 : H3 lT = some (.lst (as.map V.ref)) := sl3 _ _ nlT (s2T _ _ hlT)
        refine ⟨_, rfl, pS, vs, rfl, SqL.of (sA3 _ _ hpS), fun D0 hD => lc_it walk_enum (fun j H' => Same H3 H' ∧ ∃ zs, H' D0 = some (.lst zs) ∧ Reps (fun a => a ≠ D0) H' (((lateAt (t + 1) (cs.map fun c => c.map litD)).take j).map D.lst) zs) ⟨Same.new hD, [], upd_same, rfl⟩ (fun j H' _ h => SqL.of (h.1 _ _ (sA3 _ _ hpS))) ?_ ?_⟩
        · rintro j xx H4 H5 hj ⟨sm, zs, hz, rz⟩ ⟨T0, v1, v2, rfl, hT0, rfl, hv1, hv2⟩
          cases hv1
          have hv2 : vs[j]? = some v2 := hv2
          have sA4 := sA3.trans sm
          obtain ⟨dv, hdv, rv⟩ := (rS.same sA4).get hv2
          rw [List.getElem?_map] at hdv
          cases hc : cs[j]? with
          | none => rw [hc] at hdv; cases hdv
          | some c =>
            rw [hc] at hdv
            cases hdv
            obtain ⟨qc, ts, rfl, _, hqc, rts⟩ := rv
            have htl := rts.length
            rw [List.length_map] at htl
            have hc13 := ccs c (List.mem_of_getElem? hc)
            have s5 : Same H4 (upd H4 T0 (.tup [.int (j : Nat), .ref qc])) := Same.new hT0
            have h5 : upd H4 T0 (.tup [.int (j : Nat), .ref qc]) T0 = some (.tup [.int (j : Nat), .ref qc]) := upd_same
            generalize upd H4 T0 (.tup [.int (j : Nat), .ref qc]) = H5 at s5 h5 ⊢
            refine ⟨T0, _, rfl, SqT.of h5, rfl, ?_⟩
            refine ⟨_, _, rfl, _, _, rfl, rfl, ?_⟩
            refine ⟨rfl, ?_⟩
            refine ⟨_, rfl, by show 1 ≤ sizeLine; decide, fun q hq => ?_⟩
            have s6 : Same H5 (upd H5 q (.lst [.str "late"])) := Same.new hq
            have h6 : upd H5 q (.lst [.str "late"]) q = some (.lst [.str "late"]) := upd_same
            generalize upd H5 q (.lst [.str "late"]) = H6 at s6 h6 ⊢
            refine ⟨_, rfl, _, rfl, (j : Nat), (t : Nat), rfl, rfl, .inr ⟨_, rfl, ?_⟩⟩
            have edec : decide (((j : Nat) : Int) ≤ ((t : Nat) : Int)) = decide (j < t + 1) := by
              by_cases z : j < t + 1
              · rw [decide_eq_true z, decide_eq_true (by omega)]
              · rw [decide_eq_false z, decide_eq_false (by omega)]
            show rRep (.ref q) (.int (if decide (((j : Nat) : Int) ≤ ((t : Nat) : Int)) = true then 1 else 0)) H6 _
            rw [edec]
            have hlate : (lateAt (t + 1) (cs.map fun c => c.map litD))[j]? = some (if j < t + 1 then c.map litD ++ [.str "late"] else c.map litD) := by
              rw [lateAt_get, List.getElem?_map, hc]
              rfl
            have go : ∀ (L : List V) (LD : List D), L.length ≤ 1 → Reps (fun _ => False) H6 LD L → (if j < t + 1 then c.map litD ++ [.str "late"] else c.map litD) = c.map litD ++ LD → ∀ p, H6 p = none → rCat (.ref qc) (.ref p) (upd H6 p (.lst L)) fun y H4' => ∃ acc, H4' D0 = some (.lst acc) ∧ acc.length < sizeLine ∧
                (Same H3 (upd H4' D0 (.lst (acc ++ [y]))) ∧ ∃ zs, upd H4' D0 (.lst (acc ++ [y])) D0 = some (.lst zs) ∧ Reps (fun a => a ≠ D0) (upd H4' D0 (.lst (acc ++ [y]))) (((lateAt (t + 1) (cs.map fun c => c.map litD)).take (j + 1)).map D.lst) zs) := fun L LD hL rL eL p hp => by
              have s7 : Same H6 (upd H6 p (.lst L)) := Same.new hp
              have h7 : upd H6 p (.lst L) p = some (.lst L) := upd_same
              generalize upd H6 p (.lst L) = H7 at s7 h7 ⊢
              have s47 := (s5.trans s6).trans s7
              refine ⟨qc, p, ts, L, rfl, rfl, s47 _ _ hqc, h7, ok _ (by omega), fun p2 hp2 => ?_⟩
              have s8 : Same H7 (upd H7 p2 (.lst (ts ++ L))) := Same.new hp2
              have h8 : upd H7 p2 (.lst (ts ++ L)) p2 = some (.lst (ts ++ L)) := upd_same
              generalize upd H7 p2 (.lst (ts ++ L)) = H8 at s8 h8 ⊢
              have s48 := s47.trans s8
              have hz8 := s48 _ _ hz
              have hzl := rz.length
              rw [List.length_map, List.length_take, lateAt_length, List.length_map] at hzl
              have n2D : p2 ≠ D0 := fun z => by
                rw [z, s47 _ _ hz] at hp2
                cases hp2
              have st : Stay (fun a => a ≠ D0) H8 (upd H8 D0 (.lst (zs ++ [.ref p2]))) := stay_upd hz8 (nd_lst fun z => z rfl)
              refine ⟨zs, hz8, Nat.lt_of_lt_of_le (show zs.length < 1000 by omega) (by decide), Same.at (sm.trans s48) hD, _, upd_same, ?_⟩
              rw [List.take_add_one, hlate, List.map_append]
              refine Reps.append (Reps.mono (fun _ z => z) st (rz.same s48)) (Reps.one (Rep.mono (fun _ z => z) st ⟨p2, _, rfl, n2D, h8, ?_⟩))
              rw [eL]
              exact Reps.append (Reps.free (rts.same s48) (litsD_free c)) (Reps.mono (fun _ z => z.elim) (stay_of (s7.trans s8)) rL)
            by_cases z : j < t + 1
            · rw [decide_eq_true z]
              refine ⟨q, 1, _, rfl, rfl, h6, by decide, by decide, by show 1 ≤ sizeLine; decide, ?_⟩
              exact go [.str "late"] [.str "late"] (Nat.le_refl _) (Reps.one rfl) (by rw [if_pos z])
            · rw [decide_eq_false z]
              refine ⟨q, 0, _, rfl, rfl, h6, by decide, by decide, Nat.zero_le _, ?_⟩
              exact go [] [] (Nat.zero_le _) rfl (by rw [if_neg z, List.append_nil])
        · rintro H4 ⟨sm, zs, hz, rz⟩
          have hlen : (lateAt (t + 1) (cs.map fun c => c.map litD)).length = vs.length := by rw [lateAt_length, List.length_map, hvl]
          rw [← hlen, List.take_length] at rz
          have la4 : ListsAt H4 as (lateAt (t + 1) (cs.map fun c => c.map litD)) := la3.stay (stay_of sm)
          have loks : ∀ d ∈ lateAt (t + 1) (cs.map fun c => c.map litD), oks 1 d ∧ szs d ≤ 100 := fun d hd => by
            obtain ⟨i2, hi2⟩ := List.mem_iff_getElem?.mp hd
            rw [lateAt_get, List.getElem?_map] at hi2
            cases hc : cs[i2]? with
            | none => rw [hc] at hi2; cases hi2
            | some c =>
              rw [hc] at hi2
              have hm := List.mem_of_getElem? hc
              have h13 := ccs c hm
              have hsz := lits_sz c
              have hi2 : (if i2 < t + 1 then c.map litD ++ [.str "late"] else c.map litD) = d := Option.some.inj hi2
              subst hi2
              split
              · exact ⟨oks_app (ocs c hm) ⟨ok_str (by decide +kernel), trivial⟩, by rw [szs_snoc, hsz]; show 3 * c.length + 1 ≤ 100; omega⟩
              · exact ⟨ocs c hm, by omega⟩
          have lsz : ∀ ds : List (List D), (∀ d ∈ ds, szs d ≤ 100) → szs (ds.map D.lst) ≤ 101 * ds.length := fun ds => by
            induction ds with
            | nil => exact fun _ => Nat.le_refl _
            | cons d ds ih =>
              intro h
              have h1 := h d List.mem_cons_self
              have h2 := ih fun x hx => h x (List.mem_cons_of_mem _ hx)
              show (szs d + 1) + szs (ds.map D.lst) ≤ 101 * (ds.length + 1)
              omega
          have lsz2 := lsz _ fun d hd => (loks d hd).2
          rw [hlen] at lsz2
          refine ⟨_, rfl, _, rfl, (fun _ => True), (fun _ => True), .lst ((lateAt (t + 1) (cs.map fun c => c.map litD)).map D.lst), .ref lT, .ref D0, rfl, la4.rep (sm _ _ hlT3), ⟨D0, zs, rfl, trivial, hz, Reps.mono (fun _ _ => trivial) (fun _ _ e _ => e) rz⟩, ?_, ?_, fun H5 s5 => ⟨_, rfl, ?_⟩⟩
          · show oks 2 _
            refine oks_mem fun d hd => ?_
            obtain ⟨e, he, rfl⟩ := List.mem_map.mp hd
            exact (loks e he).1
          · show szs _ + 1 ≤ 1000000
            omega
          · refine iteF ⟨⟨_, _, _, _, rfl⟩, fun a o na e => s5 _ _ (sm _ _ (sl3 a o na e)), la4.stay (stay_of s5)⟩
      · rintro σ H2 ⟨⟨o8, o9, o10, o11, rfl⟩, sl, la2⟩
        refine ⟨⟨_, _, _, _, _, _, rfl⟩, nx H2 (sl.same sAT nn) (fun a o na e => sl a o na (s2T _ _ e))⟩
    · rintro σ H' ⟨⟨o6, o7, o8, o9, o10, o11, rfl⟩, iv⟩
      rw [hIV] at iv
      exact fin _ iv.1
end
end Q1

set_option Elab.async false
set_option maxRecDepth 100000
set_option maxHeartbeats 4000000
namespace Q1
open PySem L2 LamX PyProof.Rows
mutual
/-- its ints and texts are short -/
def D.nice : D → Prop
  | .lst xs => nices xs
  | .tup xs => nices xs
  | .int i => i.natAbs < 1000000000000
  | .str s => s.cps.size ≤ 8
  | .dic => False
  | _ => True
def nices : List D → Prop
  | [] => True
  | x :: xs => x.nice ∧ nices xs
end
theorem nices_mem : ∀ {ds : List D}, (∀ d ∈ ds, d.nice) → nices ds
  | [], _ => trivial
  | d :: ds, h => ⟨h d List.mem_cons_self, nices_mem fun x hx => h x (List.mem_cons_of_mem _ hx)⟩
mutual
theorem Loose.nice : ∀ {d e : D}, Loose d e → d.nice → e.nice
  | .lst xs, e, h, k => by
    obtain ⟨ys, he, l⟩ := h
    have := Looses.nice l k
    cases e with
    | lst zs => cases (show some zs = some ys from he); exact this
    | tup zs => cases (show some zs = some ys from he); exact this
    | _ => cases he
  | .tup xs, e, h, k => by
    obtain ⟨ys, he, l⟩ := h
    have := Looses.nice l k
    cases e with
    | lst zs => cases (show some zs = some ys from he); exact this
    | tup zs => cases (show some zs = some ys from he); exact this
    | _ => cases he
  | .non, _, h, k => by cases h; exact k
  | .bl _, _, h, k => by cases h; exact k
  | .int _, _, h, k => by cases h; exact k
  | .str _, _, h, k => by cases h; exact k
  | .dic, _, h, k => by cases h; exact k
theorem Looses.nice : ∀ {ds es : List D}, Looses ds es → nices ds → nices es
  | [], _, h, _ => by cases h; trivial
  | _ :: _, _, h, k => by
    obtain ⟨y, r, rfl, h1, h2⟩ := h
    exact ⟨Loose.nice h1 k.1, Looses.nice h2 k.2⟩
end
mutual
theorem Loose.sz : ∀ {d e : D}, Loose d e → e.sz = d.sz
  | .lst xs, e, h => by
    obtain ⟨ys, he, l⟩ := h
    rw [D.sz_items he, Looses.sz l]
    rfl
  | .tup xs, e, h => by
    obtain ⟨ys, he, l⟩ := h
    rw [D.sz_items he, Looses.sz l]
    rfl
  | .non, _, h => by cases h; rfl
  | .bl _, _, h => by cases h; rfl
  | .int _, _, h => by cases h; rfl
  | .str _, _, h => by cases h; rfl
  | .dic, _, h => by cases h; rfl
theorem Looses.sz : ∀ {ds es : List D}, Looses ds es → szs es = szs ds
  | [], _, h => by cases h; rfl
  | d :: ds, _, h => by
    obtain ⟨y, r, rfl, h1, h2⟩ := h
    show y.sz + szs r = d.sz + szs ds
    rw [Loose.sz h1, Looses.sz h2]
end
mutual
theorem Loose.ok : ∀ {n : Nat} {d e : D}, Loose d e → d.ok n → e.ok n
  | 0, .lst _, _, _, k => k.elim
  | 0, .tup _, _, _, k => k.elim
  | n + 1, .lst xs, e, h, k => by
    obtain ⟨ys, he, l⟩ := h
    have := Looses.ok (n := n) l k
    cases e with
    | lst zs => cases (show some zs = some ys from he); exact this
    | tup zs => cases (show some zs = some ys from he); exact this
    | _ => cases he
  | n + 1, .tup xs, e, h, k => by
    obtain ⟨ys, he, l⟩ := h
    have := Looses.ok (n := n) l k
    cases e with
    | lst zs => cases (show some zs = some ys from he); exact this
    | tup zs => cases (show some zs = some ys from he); exact this
    | _ => cases he
  | _, .non, _, h, k => by cases h; exact k
  | _, .bl _, _, h, k => by cases h; exact k
  | _, .int _, _, h, k => by cases h; exact k
  | _, .str _, _, h, k => by cases h; exact k
  | _, .dic, _, h, k => by cases h; exact k
theorem Looses.ok : ∀ {n : Nat} {ds es : List D}, Looses ds es → oks n ds → oks n es
  | _, [], _, h, _ => by cases h; trivial
  | _, _ :: _, _, h, k => by
    obtain ⟨y, r, rfl, h1, h2⟩ := h
    exact ⟨Loose.ok h1 k.1, Looses.ok h2 k.2⟩
end
mutual
theorem nice_weight : ∀ {d : D}, d.nice → d.py.weight + 1 ≤ 42 * d.sz
  | .lst xs, h => by
    have := nices_weight (ds := xs) h
    show PyData.weightAll (pys xs) + 1 ≤ 42 * (szs xs + 1)
    omega
  | .tup xs, h => by
    have := nices_weight (ds := xs) h
    show PyData.weightAll (pys xs) + 1 ≤ 42 * (szs xs + 1)
    omega
  | .int i, h => by
    have h : i.natAbs < 1000000000000 := h
    show (if i == 0 then 0 else i.natAbs.log2 + 1) + 1 ≤ 42 * 1
    split
    · omega
    · rename_i hz
      have hz2 : i.natAbs ≠ 0 := by
        intro z
        exact hz (by simpa using Int.natAbs_eq_zero.mp z)
      have := (Nat.log2_lt hz2 (k := 40)).mpr (Nat.lt_of_lt_of_le h (by decide))
      omega
  | .str s, h => by
    have h : s.cps.size ≤ 8 := h
    show s.cps.size + 1 ≤ 42 * 1
    omega
  | .non, _ => (show 0 + 1 ≤ 42 * 1 by decide)
  | .bl _, _ => (show 0 + 1 ≤ 42 * 1 by decide)
  | .dic, h => h.elim
theorem nices_weight : ∀ {ds : List D}, nices ds → PyData.weightAll (pys ds) ≤ 42 * szs ds
  | [], _ => Nat.zero_le _
  | d :: ds, h => by
    have h1 := nice_weight h.1
    have h2 := nices_weight h.2
    have h3 := d.sz_pos
    show d.py.weight + 1 + PyData.weightAll (pys ds) ≤ 42 * (d.sz + szs ds)
    omega
end
mutual
theorem nice_ints : ∀ {d : D}, d.nice → d.py.intsShort 13 = true ∧ d.py.showable = true
  | .lst xs, h => by
    obtain ⟨a, b⟩ := nices_ints (ds := xs) h
    exact ⟨by unfold D.py; simpa only [PyData.intsShort] using a, by unfold D.py; simpa only [PyData.showable] using b⟩
  | .tup xs, h => by
    obtain ⟨a, b⟩ := nices_ints (ds := xs) h
    exact ⟨by unfold D.py; simpa only [PyData.intsShort] using a, by unfold D.py; simpa only [PyData.showable] using b⟩
  | .int i, h => by
    have h : i.natAbs < 1000000000000 := h
    unfold D.py
    simp only [PyData.intsShort, PyData.showable, decide_eq_true_eq]
    refine ⟨PyData.shown_int_le (Nat.lt_of_lt_of_le h (by decide)), ?_⟩
    by_cases hz : i.natAbs = 0
    · rw [hz]; decide
    · exact (Nat.log2_lt hz).mpr (Nat.lt_of_lt_of_le h (by
        have : (2 : Nat) ^ 40 ≤ 2 ^ 1920 := Nat.pow_le_pow_right (by decide) (by decide)
        omega))
  | .str s, h => by unfold D.py; exact ⟨by simp only [PyData.intsShort], by simp only [PyData.showable]⟩
  | .non, _ => by unfold D.py; exact ⟨by simp only [PyData.intsShort], by simp only [PyData.showable]⟩
  | .bl _, _ => by unfold D.py; exact ⟨by simp only [PyData.intsShort], by simp only [PyData.showable]⟩
  | .dic, h => h.elim
theorem nices_ints : ∀ {ds : List D}, nices ds → PyData.intsShortAll 13 (pys ds) = true ∧ PyData.showableAll (pys ds) = true
  | [], _ => by unfold pys; exact ⟨by simp only [PyData.intsShortAll], by simp only [PyData.showableAll]⟩
  | d :: ds, h => by
    obtain ⟨a, b⟩ := nice_ints h.1
    obtain ⟨c, e⟩ := nices_ints h.2
    unfold pys
    exact ⟨by simp only [PyData.intsShortAll, a, c, Bool.and_self], by simp only [PyData.showableAll, b, e, Bool.and_self]⟩
end
/-- what repr asks -/
theorem nice_repr {n : Nat} {d : D} (h : d.nice) (k : d.ok n) (hn : n ≤ 64) (hs : d.sz ≤ 20000) : d.py.showable = true ∧ d.py.hasDict = false ∧ d.py.depth ≤ 64 ∧ d.py.shown.length ≤ sizeLine := by
  obtain ⟨a, b⟩ := D.ok_lay k
  have w := nice_weight h
  have l : PyData.layable0 d.py = true := by
    show (PyData.canLay0 d.py && decide (PyData.depth d.py ≤ 64) && decide (PyData.weight d.py ≤ 2 ^ 20)) = true
    rw [a, decide_eq_true (Nat.le_trans b hn), decide_eq_true (show PyData.weight d.py ≤ 2 ^ 20 by omega)]
    rfl
  exact ⟨(nice_ints h).2, PyData.hasDict_of_layable l, Nat.le_trans b hn, PyData.shown_fits_of_layable0 (by decide) (by decide) l (nice_ints h).1⟩
mutual
theorem Rep.hereL {S : Addr → Prop} {H : Hp} : ∀ {d : D} {v : V}, Rep S H d v → Rep (fun a => S a ∧ ∃ us, H a = some (.lst us)) H d v
  | .non, _, h => h
  | .bl _, _, h => h
  | .int _, _, h => h
  | .str _, _, h => h
  | .dic, _, h => h
  | .lst _, _, h => by
    obtain ⟨a, vs, rfl, sa, ha, r⟩ := h
    exact ⟨a, vs, rfl, ⟨sa, vs, ha⟩, ha, Reps.hereL r⟩
  | .tup _, _, h => by
    obtain ⟨a, vs, rfl, ha, r⟩ := h
    exact ⟨a, vs, rfl, ha, Reps.hereL r⟩
theorem Reps.hereL {S : Addr → Prop} {H : Hp} : ∀ {ds : List D} {vs : List V}, Reps S H ds vs → Reps (fun a => S a ∧ ∃ us, H a = some (.lst us)) H ds vs
  | [], _, h => h
  | _ :: _, _, h => by
    obtain ⟨v, r, rfl, h1, h2⟩ := h
    exact ⟨v, r, rfl, Rep.hereL h1, Reps.hereL h2⟩
end
theorem Late.stay {S S2 : Addr → Prop} {K : Nat} {H H' : Hp} (h : Late S2 K H H') (n : ∀ a, S a → ¬ S2 a) : Stay S H H' := fun a o e nd => by
  rcases h a o e with ⟨vs, k, rfl, s2, _⟩ | ⟨_, h1⟩
  · rcases nd with ⟨_, _, sa⟩ | ⟨_, q⟩ | q
    · exact absurd s2 (n a sa)
    · cases q
    · cases q
  · exact h1
theorem Late.other {S2 : Addr → Prop} {K : Nat} {H H' : Hp} (h : Late S2 K H H') {a : Addr} {o : HO} (e : H a = some o) (n : ∀ vs, o ≠ .lst vs) : H' a = some o := by
  rcases h a o e with ⟨vs, k, rfl, _⟩ | ⟨_, h1⟩
  · exact absurd rfl (n vs)
  · exact h1
theorem Late.at {S2 : Addr → Prop} {K : Nat} {H H' : Hp} (h : Late S2 K H H') {a : Addr} {o : HO} (e : H a = some o) (n : ¬ S2 a) : H' a = some o := by
  rcases h a o e with ⟨vs, k, rfl, s, _⟩ | ⟨_, h1⟩
  · exact absurd s n
  · exact h1
theorem qAt_late {C q : Addr} {S S2 : Addr → Prop} {K : Nat} {H H' : Hp} {ps : List (Str × D)} {cw cg : List (List (Str × Bool))} (h : QAt C S H q ps cw cg) (l : Late S2 K H H') (n : ∀ a, S a → ¬ S2 a) : QAt C S H' q ps cw cg := by
  obtain ⟨dx, n1, hA, p, wl, gl, wc, wt, gc, gt, a1, a2, a3, a4, a5, a6, a7, a8, a9, a10⟩ := h
  have w : ∀ {d : D} {v : V}, Rep S H d v → Rep S H' d v := fun r => Rep.mono (fun _ z => z) (l.stay n) r
  exact ⟨dx, n1, hA, p, wl, gl, wc, wt, gc, gt, l.other a1 (fun _ z => nomatch z), w a2, w a3, l.other a4 (fun _ z => nomatch z), w a5, w a6, w a7, w a8, w a9, w a10⟩
theorem qAt_extN {C q : Addr} {S : Addr → Prop} {H H' : Hp} {ps : List (Str × D)} {cw cg : List (List (Str × Bool))} (h : QAt C S H q ps cw cg) (e : ExtN H H') : QAt C S H' q ps cw cg := by
  obtain ⟨dx, n1, hA, p, wl, gl, wc, wt, gc, gt, a1, a2, a3, a4, a5, a6, a7, a8, a9, a10⟩ := h
  exact ⟨dx, n1, hA, p, wl, gl, wc, wt, gc, gt, e _ _ a1 (fun _ z => nomatch z), a2.extN e, a3.extN e, e _ _ a4 (fun _ z => nomatch z), a5.extN e, a6.extN e, a7.extN e, a8.extN e, a9.extN e, a10.extN e⟩
theorem tabs_late {T : List (Addr × Str)} {S2 : Addr → Prop} {K : Nat} {H H' : Hp} (h : Late S2 K H H') (t : Tabs T H) : Tabs T H' := fun x hx => by
  obtain ⟨ps, a1, a2, a3⟩ := t x hx
  refine ⟨ps, h.other a1 (fun _ z => nomatch z), a2, fun pos cv hc => ?_⟩
  obtain ⟨c, b1, b2⟩ := a3 pos cv hc
  exact ⟨c, b1, h.other b2 (fun vs z => by unfold CodeO at z; cases z)⟩
theorem qHands_nice {d : D} (h : d ∈ qHands) : (handD d).nice := by
  rw [(qHands_ok h).2.1]
  simp only [qHands, List.mem_cons, List.not_mem_nil, or_false] at h
  rcases h with e | e | e | e | e | e | e | e <;> rw [e] <;> first | (simp only [D.nice, nices]; decide) | (show Array.size _ ≤ 8; decide +kernel)
theorem qHands_ok1 {d : D} (h : d ∈ qHands) : (handD d).ok 1 := by
  rw [(qHands_ok h).2.1]
  simp only [qHands, List.mem_cons, List.not_mem_nil, or_false] at h
  rcases h with e | e | e | e | e | e | e | e <;> rw [e] <;> first | exact ⟨trivial, trivial, trivial⟩ | exact ok_str (by decide +kernel)
theorem qNames_nice {s : Str} (h : s ∈ qNames) : s.cps.size ≤ 8 := by
  have : ∀ x ∈ qNames, x.cps.size ≤ 8 := by decide +kernel
  exact this s h
theorem pairs_ok {ps : List (Str × D)} (h : ∀ p ∈ ps, p.2 ∈ qHands) (hn : ∀ x ∈ ps.map Prod.fst, x ∈ qNames) : oks 2 (ps.map pairD) ∧ nices (ps.map pairD) := by
  refine ⟨oks_mem fun d hd => ?_, nices_mem fun d hd => ?_⟩
  · obtain ⟨p, hp, rfl⟩ := List.mem_map.mp hd
    exact ⟨ok_str (qNames_ok _ (hn _ (List.mem_map_of_mem hp))), qHands_ok1 (h p hp), trivial⟩
  · obtain ⟨p, hp, rfl⟩ := List.mem_map.mp hd
    exact ⟨qNames_nice (hn _ (List.mem_map_of_mem hp)), qHands_nice (h p hp), trivial⟩
theorem lits_nice {c : List (Str × Bool)} (h : ∀ l ∈ c, l.1 ∈ qNames) : nices (c.map litD) := nices_mem fun d hd => by
  obtain ⟨l, hl, rfl⟩ := List.mem_map.mp hd
  exact ⟨qNames_nice (h l hl), trivial, trivial⟩
theorem lits_ok1 {c : List (Str × Bool)} (h : ∀ l ∈ c, l.1 ∈ qNames) : oks 1 (c.map litD) := oks_mem fun d hd => by
  obtain ⟨l, hl, rfl⟩ := List.mem_map.mp hd
  exact ⟨ok_str (qNames_ok _ (h l hl)), trivial, trivial⟩
theorem clauses_ok {names : List Str} {cs : List (List (Str × Bool))} (h : InOrd names cs) (hn : ∀ x ∈ names, x ∈ qNames) : (clausesD cs).ok 3 ∧ (clausesD cs).nice := by
  refine ⟨oks_mem fun d hd => ?_, nices_mem fun d hd => ?_⟩
  · obtain ⟨c, hc, rfl⟩ := List.mem_map.mp hd
    exact lits_ok1 fun l hl => hn _ ((h c hc).subset (List.mem_map_of_mem hl))
  · obtain ⟨c, hc, rfl⟩ := List.mem_map.mp hd
    exact lits_nice fun l hl => hn _ ((h c hc).subset (List.mem_map_of_mem hl))
theorem goodQ_ok {ps : List (Str × D)} {cw cg : List (List (Str × Bool))} (g : GoodQ ps cw cg) : (qD ps cw cg).ok 4 ∧ (qD ps cw cg).sz ≤ 2000 := by
  have hw := clauses_ok g.w g.nm
  have hg := clauses_ok g.g g.nm
  have hp := pairs_ok g.hd g.nm
  have hnl : (ps.map Prod.fst).length ≤ 13 := by rw [List.length_map]; exact g.pl
  have h1 := clauses_sz (cs := cw) (inOrd_len g.w hnl)
  have h2 := clauses_sz (cs := cg) (inOrd_len g.g hnl)
  have h3 := pairs_sz g.hd
  have := g.lw
  have := g.lg
  have := g.pl
  refine ⟨⟨hp.1, hw.1, hg.1, trivial⟩, ?_⟩
  show (szs (ps.map pairD) + 1) + ((szs (cw.map litsD) + 1) + ((szs (cg.map litsD) + 1) + 0)) + 1 ≤ 2000
  omega
section
variable {K : PySem.W.Frag}
theorem kb_init {f : Addr} {fd : FuncData} (F : Fun K "__init__" "Question.__init__" sInit f fd) : KBn K fd ["self", "marks", "wishes", "guards"] 1 ["guards", "wishes", "marks"] (fun us ws => us ++ ws.reverse) (fun vs zs => vs ++ zs.reverse) := by
  obtain ⟨oc, od, kV, doc, pm, an, cdv, ct, osl, rfl, lk, hcd⟩ := F.ex
  refine ⟨fun s us ws X l1 l2 => ?_, fun r1 r2 => ?_⟩
  · match us, ws, l1, l2 with
    | [a], [b, c, d], _, _ => exact .of_eq rfl
  · exact r1.append r2.reverse
end
end Q1

set_option Elab.async false
set_option maxRecDepth 100000
set_option maxHeartbeats 4000000
namespace Q1
open PySem L2 LamX PyProof.Rows
mutual
theorem D.le_sz {M : Nat} : ∀ {d : D}, d.sz ≤ M → d.le M
  | .lst xs, h => by
    have h : szs xs + 1 ≤ M := h
    have := szs_len xs
    exact ⟨by omega, les_szs (by omega)⟩
  | .tup xs, h => by
    have h : szs xs + 1 ≤ M := h
    exact les_szs (ds := xs) (by omega)
  | .non, _ => trivial
  | .bl _, _ => trivial
  | .int _, _ => trivial
  | .str _, _ => trivial
  | .dic, _ => trivial
theorem les_szs {M : Nat} : ∀ {ds : List D}, szs ds ≤ M → les M ds
  | [], _ => trivial
  | d :: ds, h => by
    have h : d.sz + szs ds ≤ M := h
    exact ⟨D.le_sz (by omega), les_szs (by omega)⟩
end
mutual
theorem D.nl_sz : ∀ d : D, d.nl ≤ d.sz
  | .lst xs => Nat.succ_le_succ (nls_szs xs)
  | .tup xs => Nat.le_succ_of_le (nls_szs xs)
  | .non => Nat.zero_le _
  | .bl _ => Nat.zero_le _
  | .int _ => Nat.zero_le _
  | .str _ => Nat.zero_le _
  | .dic => Nat.zero_le _
theorem nls_szs : ∀ ds : List D, nls ds ≤ szs ds
  | [] => Nat.le_refl _
  | d :: ds => Nat.add_le_add (D.nl_sz d) (nls_szs ds)
end
/-- one turn of a loop that adds 'late' -/
theorem late_step {S : Addr → Prop} {Hb H' : Hp} {es : List D} {vs : List V} {i : Nat} {x : V} (r : Reps S Hb es vs) (ok : oks 3 es) (sz : szs es ≤ 10000) (hx : vs[i]? = some x) (la : Late S (nls (es.take i)) Hb H') :
    ∃ (e : D) (M : Nat), Rep S H' e x ∧ e.ok 3 ∧ e.le M ∧ M + e.nl ≤ 1000000 ∧ ∀ H3, Late S e.nl H' H3 → Late S (nls (es.take (i + 1))) Hb H3 := by
  obtain ⟨dx, hdx, rx⟩ := r.get hx
  obtain ⟨e, ge, re⟩ := rx.late la
  have hm := List.mem_of_getElem? hdx
  have htk := nls_take_le es i dx hdx
  have hns := nls_szs es
  obtain ⟨g1, g2, g3⟩ := ge.all (oks_all ok dx hm) (les_all (les_szs sz) dx hm)
  refine ⟨e, 10000 + nls (es.take i), re, g1, g2, by omega, fun H3 l3 => ?_⟩
  have := la.trans l3
  rw [g3] at this
  rw [List.take_add_one, hdx, nls_app]
  exact this.weak (fun _ z => z) (by show _ ≤ nls (es.take i) + (dx.nl + 0); omega)
theorem late_same {H0 H1 H2 : Hp} {K : Nat} (s : Same H0 H1) (l : Late (fun b => H0 b = none) K H1 H2) : Same H0 H2 := fun a o e => l.at (s a o e) (fun z => by rw [z] at e; cases e)
theorem eqQ_refl {ps : List (Str × D)} {cw cg : List (List (Str × Bool))} (k : okQ ps cw cg) : eqQ ps ps cw cw cg cg = true := by
  unfold eqQ D.eq
  rw [eqv_refl k.1, eqv_refl k.2.1, eqv_refl k.2.2.1, eqv_refl k.2.2.2]
  rfl
theorem okQ_of {ps : List (Str × D)} {cw cg : List (List (Str × Bool))} (g : GoodQ ps cw cg) : okQ ps cw cg := by
  refine ⟨oks_mem fun d hd => ?_, oks_mem fun d hd => ?_, D.ok_le (clauses_ok g.w g.nm).1 (by decide), D.ok_le (clauses_ok g.g g.nm).1 (by decide)⟩
  · obtain ⟨p, hp, rfl⟩ := List.mem_map.mp hd
    exact ok_str (qNames_ok _ (g.nm _ (List.mem_map_of_mem hp)))
  · obtain ⟨p, hp, rfl⟩ := List.mem_map.mp hd
    exact D.ok_le (qHands_ok1 (g.hd p hp)) (by decide)
section
variable {P : Program} {w : World} {K : PySem.W.Frag} {mg : Str → Option Value} {base : Heap}
/-- == of the class Question -/
structure Qe (K : PySem.W.Frag) (C : Addr) where
  fe : Addr
  fde : FuncData
  Fe : Fun K "__eq__" "Question.__eq__" sEq fe fde
  be : Binds K fde ["self", "other"] []
  O : Qo K C fe
  I : Qi K C
/-! ### _law_told_right -/
/-- the scope of its comprehension -/
abbrev sc6 : Scope := { kind := .function, names := [(".0", .local), ("some", .local), ("_law_q_loose", .globalImplicit), ("stream", .cell)], isGenerator := false, isCoroutine := false }
abbrev sTold : Stmt := top 43
abbrev nTold : List Str := ["stream", "question", "handed", "was", "made", "again", "some", "one"]
theorem scTold : FnScope nTold ["stream", "question"] (defScope sTold) := ⟨rfl, rfl, rfl, by decide +kernel, rfl, by decide +kernel, by decide +kernel⟩
def spTold (T : List (Addr × Str)) : Sp := fun vs H Q _ => ∃ (S : Addr → Prop) (s r : Addr) (n : Nat) (ps : List (Str × D)) (cw cg : List (List (Str × Bool))), vs = [.ref s, .ref r] ∧ Strm H s n ∧ n + 5000 < LIM ∧ Rep S H (qD ps cw cg) (.ref r) ∧ ¬ S s ∧ GoodQ ps cw cg ∧ Tabs T H ∧
  ∀ H', ExtS s H H' → Tabs T H' → Strm H' s (n + 5000) → Q (.bl true) H'
theorem ok_told {T : List (Addr × Str)} (B : Bt mg) (W : Qw K mg) (TT : Tq base T W) (M : Mt K W.Z.C) (Y : Qe K W.Z.C) (N : Dn K mg "_law_told_right" sTold ["stream", "question"]) (NS : Dn K mg "_law_same" sSame ["found", "wanted"]) (NP : Dn K mg "_law_parts" sParts ["question"]) (NT : Dn K mg "_law_late" sLate ["thing"])
    (NL : Dn K mg "_law_q_loose" sLoose ["stream", "thing"]) (NM : Dn K mg "_law_mixed" sMixed ["stream", "some"]) (ND : Dn K mg "_law_draw" sDraw ["stream", "many"]) :
    FnG P w K mg base CX0 8 N.f N.fd ["stream", "question"] (spTold T) := by
  have GI : FnOk P w K mg base (L2.CX P w) 5 W.fi W.fdi ["self", "marks", "wishes", "guards"] (spInit W.Z.C W.Y.e2.C W.Y.e3.C W.Y.e4.C T) := ok_init B W.Cc W.Z W.Y W.F TT.TB TT.hm TT.hu
  have GL : FnOk P w K mg base CX0 6 NL.f NL.fd ["stream", "thing"] (spLoose 4) := ok_loose B NL ND 4
  have GM : FnOk P w K mg base CX0 2 NM.f NM.fd ["stream", "some"] (spMixed K) := ok_mixed B NM ND
  have GS : FnOk P w K mg base CX0 7 NS.f NS.fd ["found", "wanted"] (spSame 6) := ok_same B NS 6
  have GP : FnOk P w K mg base CX0 2 NP.f NP.fd ["question"] (spParts W.Z.C) := ok_parts B W.Z M NP
  have GT : FnOk P w K mg base CX0 5 NT.f NT.fd ["thing"] (spLate 4) := ok_late B NT 4
  have GE : FnOk P w K mg base CX0 1 Y.fe Y.fde ["self", "other"] (spEq K W.Z.C) := ok_eq B W.Z Y.I Y.Fe
  have KB := kb_init W.F
  refine FnG.fn N.F scTold (fun vs H Q E h => ?_) (fun cdv A outer s H vs Q E hgd hr h => ?_)
  · obtain ⟨S, s, r, n, ps, cw, cg, rfl, _⟩ := h
    rfl
  · obtain ⟨S, a, r, n, ps, cw, cg, rfl, hs, hn, hq, hS, g, t0, k⟩ := h
    have hu : (A.deeper (envOfC "_law_told_right" (defScope sTold) s.heap.objs.size N.f cdv)).units + 200 < cLine := by have := hr.un; omega
    have hg2 := deeper_guards (env := envOfC "_law_told_right" (defScope sTold) s.heap.objs.size N.f cdv) hgd
    refine ⟨_, pss_cons (ps_set (i := 2) scTold.nd rfl (Or.inl rfl) (pe_lst (pa_cons (pe_call GL (hr.mono (by decide)) (by rfl) NL.g NL.F.kp NL.b .nil pass0 (pa_cons (pv 0) (pa_cons (pe_ix ix_tup (pv 1) pe_int (fun _ _ => rfl)) pa_nil))) pa_nil)))
      (pss_cons (ps_expr (pe_bm PySem.F.plainAttrs_list PySem.F.slot_list_extend PySem.F.type_list_extend mt_extend (pv 2) (pa_cons
        (pe_lc (own := [("some", 6)]) (g := gName 6) (tt := tYes) (te := tCall (spLoose 4) [] E0 (tCons (tVar 0) (tCons (tLc (iList K (tVar 6)) (gName 7) tYes (tCall (spMixed K) [] E0 (tCons (tVar 0) (tCons (tVar 7) tNil))) [7]) tNil))) rfl scTold.nd (pi_tup (pe_slice sl_tup (pv 1) (po_some pe_int) po_none)) (blkOk_by (own := [("some", 6)]) (N := nTold) (sc := defScope sTold) (by decide +kernel)) (fun _ _ _ _ _ => pg_name (i := 6) scTold.nd rfl (Or.inl rfl)) (fun _ _ _ _ _ => pts_nil)
          (fun _ _ _ _ _ => pe_call GL (hr.mono (by decide)) (by rfl) NL.g NL.F.kp NL.b .nil pass0 (pa_cons (pv 0) (pa_cons
            (pe_lc (own := [("one", 7)]) (g := gName 7) (tt := tYes) (te := tCall (spMixed K) [] E0 (tCons (tVar 0) (tCons (tVar 7) tNil))) rfl scTold.nd (pi_list (pv 6)) (blkOk_by (own := [("one", 7)]) (N := nTold) (sc := sc6) (by decide +kernel)) (fun _ _ _ _ _ => pg_name (i := 7) scTold.nd rfl (Or.inl rfl)) (fun _ _ _ _ _ => pts_nil)
              (fun _ _ _ _ _ => pe_call GM (hr.mono (by decide)) (by rfl) NM.g NM.F.kp NM.b .nil pass0 (pa_cons (pv 0) (pa_cons (pv 7) pa_nil)))) pa_nil)))) pa_nil)))
      (pss_cons (ps_par (i := 3) (j := 4) (by rfl) scTold.nd rfl rfl (by decide) rfl rfl (pa_cons (pe_callB (call_reprD hg2 hu) (by rfl) B.repr PyProof.Rows.boot_repr (pa_cons (pv 2) pa_nil)) (pa_cons (pe_make W.M GI (hr.mono (by decide)) (by rfl) W.Z.g W.bi .nil passL (pa_cons (pe_ix ix_list (pv 2) pe_int (fun _ _ => rfl)) (pa_cons (pe_ix ix_list (pv 2) pe_int (fun _ _ => rfl)) (pa_cons (pe_ix ix_list (pv 2) pe_int (fun _ _ => rfl)) pa_nil)))) pa_nil)) (by rfl))
      (pss_cons (ps_set (i := 5) scTold.nd rfl (Or.inl rfl) (pe_makeK0 W.M GI (hr.mono (by decide)) (by rfl) W.Z.g KB passL (pk_cons (pe_ix ix_tup (pv 1) pe_int (fun _ _ => rfl)) (pk_cons (pe_ix ix_tup (pv 1) pe_int (fun _ _ => rfl)) (pk_cons (pe_ix ix_tup (pv 1) pe_int (fun _ _ => rfl)) pk_nil)))))
      (pss_cons (ps_if (PW.pt (pw_or (pt_cmpR op_ne (pe_callB (call_reprD hg2 hu) (by rfl) B.repr PyProof.Rows.boot_repr (pa_cons (pv 2) pa_nil)) (pv 3) (nomark _))
          (pw_or1 (pt_not (pt_val (pe_call GS (hr.mono (by decide)) (by rfl) NS.g NS.F.kp NS.b .nil pass0 (pa_cons (pe_lst (pa_cons (pe_call GP (hr.mono (by decide)) (by rfl) NP.g NP.F.kp NP.b .nil pass0 (pa_cons (pv 4) pa_nil)) (pa_cons (pe_call GP (hr.mono (by decide)) (by rfl) NP.g NP.F.kp NP.b .nil pass0 (pa_cons (pv 5) pa_nil)) pa_nil)))
            (pa_cons (pe_lst (pa_cons (pv 1) (pa_cons (pv 1) pa_nil))) pa_nil))) (fun _ => rfl)))))) pss_never pss_nil)
      (pss_cons (ps_for PassesOwn.never rfl (pi_list (pv 2)) (pg_name (i := 6) scTold.nd rfl (Or.inl rfl)) (pss_one (ps_expr (pe_call GT (hr.mono (by decide)) (by rfl) NT.g NT.F.kp NT.b .nil pass0 (pa_cons (pv 6) pa_nil)))))
      (pss_cons (ps_for PassesOwn.never rfl (pi_tup (pe_call GP (hr.mono (by decide)) (by rfl) NP.g NP.F.kp NP.b .nil pass0 (pa_cons (pv 4) pa_nil))) (pg_name (i := 6) scTold.nd rfl (Or.inl rfl)) (pss_one (ps_expr (pe_call GT (hr.mono (by decide)) (by rfl) NT.g NT.F.kp NT.b .nil pass0 (pa_cons (pv 6) pa_nil)))))
      (pss_one (ps_ret (pe_and (pe_call GS (hr.mono (by decide)) (by rfl) NS.g NS.F.kp NS.b .nil pass0 (pa_cons (pe_call GP (hr.mono (by decide)) (by rfl) NP.g NP.F.kp NP.b .nil pass0 (pa_cons (pv 4) pa_nil)) (pa_cons (pv 1) pa_nil)))
        (pe_and (pe_cmpR (op_ownEq GE (hr.mono (by decide)) Y.be Y.O) (pv 4) (pv 5) (nomark _)) (pe_one (pe_not (pe_cmpR (op_ownNe GE (hr.mono (by decide)) Y.be Y.O) (pv 4) (pv 5) (nomark _)))))))))))))), ?_⟩
    obtain ⟨_, _, er, hr0, m, _, rfl, rm, wv, _, rfl, rw1, gv, _, rfl, rg1, rfl⟩ := id hq
    cases er
    obtain ⟨u0, hu0⟩ := hs.lst
    have nra : r ≠ a := fun z => by rw [z, hu0] at hr0; cases hr0
    have hnl : (ps.map Prod.fst).length ≤ 13 := by rw [List.length_map]; exact g.pl
    have psz := pairs_sz g.hd
    have gpl := g.pl
    have pok := pairs_ok g.hd g.nm
    have hszM : (D.lst (ps.map pairD)).sz = szs (ps.map pairD) + 1 := rfl
    refine ⟨_, rfl, _, rfl, r, _, 0, m, rfl, rfl, SqT.of hr0, atI_nat (j := 0) rfl, S, a, n, .lst (ps.map pairD), m, rfl, hs, by omega, by omega, rm, hS, pok.1, fun H1 v0 e0 sm1 re0 le0 hs1 => ?_⟩
    refine ⟨by show 1 ≤ sizeLine; decide, fun h0 nh0 => ?_⟩
    have nh0H : H h0 = none := sameS_back sm1 hs1 nh0
    have nha : h0 ≠ a := fun z => by rw [z, hu0] at nh0H; cases nh0H
    have s2 : Same H1 (upd H1 h0 (.lst [v0])) := Same.new nh0
    have hh2 : upd H1 h0 (.lst [v0]) h0 = some (.lst [v0]) := upd_same
    have sm2 : SameS a H (upd H1 h0 (.lst [v0])) := sm1.new nh0
    have re2 : Rep (fun b => H b = none ∧ b ≠ h0) (upd H1 h0 (.lst [v0])) e0 v0 := Rep.mono (fun b z => ⟨z.1, fun q => z.2 (q ▸ nh0)⟩) (stay_of s2) re0.here
    have hs2 := hs1.same s2
    generalize upd H1 h0 (.lst [v0]) = H2 at s2 hh2 sm2 re2 hs2 ⊢
    refine tSeq_two (R := fun σ H3 => σ = [some (.ref a), some (.ref r), some (.ref h0), none, none, none, none, none] ∧ H2 = H3) (fun D' hD => hD _ _ ⟨rfl, rfl⟩) ?_
    rintro _ _ ⟨rfl, rfl⟩
    refine tSeq_two (R := fun σ H5 => σ = [some (.ref a), some (.ref r), some (.ref h0), none, none, none, none, none] ∧ SameS a H H5 ∧ ∃ (v1 v2 : V) (e1 e2 : D) (cw' cg' : List (List (Str × Bool))), H5 h0 = some (.lst [v0, v1, v2]) ∧ Reps (fun b => H b = none ∧ b ≠ h0) H5 [e0, e1, e2] [v0, v1, v2] ∧
      Mx cw' cw ∧ Loose (clausesD cw') e1 ∧ Mx cg' cg ∧ Loose (clausesD cg') e2 ∧ Strm H5 a (n + 4000)) (fun D' hD' => ?_) ?_
    · refine ⟨_, rfl, .inl ⟨rfl, _, SqL.of hh2⟩, ?_⟩
      refine ⟨_, rfl, 1, rfl, r, _, rfl, SqT.of (sm2 _ _ nra hr0), (fun z => (show ¬ (HT.sIx 3 0 (some 1) = 0) by decide) z.1), fun p hp => ?_⟩
      rw [show cutV [m, wv, gv] (some 1) none = [wv, gv] from rfl]
      have s3 : Same H2 (upd H2 p (.tup [wv, gv])) := Same.new hp
      have hp3 : upd H2 p (.tup [wv, gv]) p = some (.tup [wv, gv]) := upd_same
      have sm3 : SameS a H (upd H2 p (.tup [wv, gv])) := sm2.new hp
      have hs3 := hs2.same s3
      have npa : p ≠ a := fun z => by
        obtain ⟨u3, hu3⟩ := hs2.lst
        rw [z, hu3] at hp
        cases hp
      have nph : p ≠ h0 := fun z => by rw [z, hh2] at hp; cases hp
      have hh3 := s3 _ _ hh2
      have re3 := re2.same s3
      generalize upd H2 p (.tup [wv, gv]) = H3 at s3 hp3 sm3 hs3 hh3 re3 ⊢
      refine ⟨p, rfl, ⟨_, SqT.of hp3⟩, fun D1 hD1 => ?_⟩
      have nD1H : H D1 = none := sameS_back sm3 hs3 hD1
      have nD1a : D1 ≠ a := fun z => by rw [z, hu0] at nD1H; cases nD1H
      have nD1h : D1 ≠ h0 := fun z => by rw [z, hh3] at hD1; cases hD1
      have nD1p : p ≠ D1 := fun z => by rw [← z, hp3] at hD1; cases hD1
      refine lc_tup (K := K) (a := p) (xs := [wv, gv]) (fun i H' => SameS a H3 H' ∧ ∃ (vs : List V) (es : List D), H' D1 = some (.lst vs) ∧ Reps (fun x => (H x = none ∧ x ≠ h0) ∧ x ≠ D1) H' es vs ∧ es.length = i ∧
        (∀ (j : Nat) (e : D), es[j]? = some e → ∃ cs cs', [cw, cg][j]? = some cs ∧ Mx cs' cs ∧ Loose (clausesD cs') e) ∧ Strm H' a (n + (D.lst (ps.map pairD)).sz + 1500 * i)) ?_ (fun i H' _ x => SqT.of (x.1 _ _ npa hp3)) ?_ ?_
      · exact ⟨(SameS.refl H3).new hD1, [], [], upd_same, rfl, rfl, fun j e h => by simp at h, hs3.same (Same.new hD1)⟩
      · rintro i x H4 hx ⟨sm4, vs, es, hD4, r4, l4, c4, hs4⟩
        have smH4 := sm3.trans sm4
        obtain ⟨cs, hcs, rcs, ios, lcs⟩ : ∃ cs, [cw, cg][i]? = some cs ∧ Rep S H (clausesD cs) x ∧ InOrd (ps.map Prod.fst) cs ∧ cs.length ≤ 22 := by
          match i, hx with
          | 0, hx => cases (show some wv = some x from hx); exact ⟨cw, rfl, rw1, g.w, g.lw⟩
          | 1, hx => cases (show some gv = some x from hx); exact ⟨cg, rfl, rg1, g.g, g.lg⟩
          | i + 2, hx => simp at hx
        have hi2 : i < 2 := (List.getElem?_eq_some_iff.mp hx).1
        have ils := inOrd_len ios hnl
        obtain ⟨cl, us, rfl, scl, hcl, rus⟩ := sameS_rep smH4 hs hS rcs
        have nca : cl ≠ a := fun z => hS (z ▸ scl)
        have hul : us.length = cs.length := by rw [rus.length, List.length_map]
        have nS : ¬ (fun x => (H x = none ∧ x ≠ h0) ∧ x ≠ D1) a := fun z => by
          have z1 : H a = none := z.1.1
          rw [hu0] at z1
          cases z1
        refine ⟨rfl, ?_⟩
        refine ⟨_, rfl, _, rfl, cl, rfl, ⟨_, SqL.of hcl⟩, fun D0 hD => ?_⟩
        have nDH := sameS_back smH4 hs4 hD
        have nDa : D0 ≠ a := fun z => by rw [z, hu0] at nDH; cases nDH
        have nDb : D0 ≠ D1 := fun z => by rw [z, hD4] at hD; cases hD
        have hh4 := sm4 h0 _ nha hh3
        have nDh : D0 ≠ h0 := fun z => by rw [z, hh4] at hD; cases hD
        refine lc_list (K := K) (a := cl) (xs := us) (fun i2 H' => SameS a H4 H' ∧ ∃ (zs : List V) (cs' : List (List (Str × Bool))), H' D0 = some (.lst zs) ∧ Reps (fun x => H x = none ∧ x ≠ D0) H' (cs'.map litsD) zs ∧ Mx cs' (cs.take i2) ∧ Strm H' a (n + (D.lst (ps.map pairD)).sz + 1500 * i + 13 * i2))
          ⟨(SameS.refl H4).new hD, [], [], upd_same, rfl, rfl, hs4.same (Same.new hD)⟩ (fun i2 H' _ y => SqL.of (y.1 _ _ nca hcl)) ?_ ?_
        · rintro i2 v H5 hv ⟨sm5, zs, cs', hz, rz, mz, hs5⟩
          obtain ⟨dv, hdv, hrv⟩ := (sameS_reps sm5 hs4 hS rus).get hv
          rw [List.getElem?_map] at hdv
          have hlt : i2 < us.length := (List.getElem?_eq_some_iff.mp hv).1
          cases hcc : cs[i2]? with
          | none => rw [hcc] at hdv; cases hdv
          | some c =>
            rw [hcc] at hdv
            cases hdv
            obtain ⟨q, ts, rfl, sq, hq5, rts⟩ := hrv
            have hcm := List.mem_of_getElem? hcc
            have hc13 := ils c hcm
            have htl := rts.length
            rw [List.length_map] at htl
            refine ⟨rfl, ?_⟩
            refine ⟨_, rfl, _, rfl, S, a, q, n + (D.lst (ps.map pairD)).sz + 1500 * i + 13 * i2, ts, c.map litD, rfl, hs5, by omega, .inl (SqL.of hq5), rts, hS, ?_, by omega, fun H6 rr ys sm6 perm hr6 hy6 hs6 => ?_⟩
            · exact oks_mem fun d hd => by
                obtain ⟨l, hl, rfl⟩ := List.mem_map.mp hd
                exact ⟨ok_str (qNames_ok _ (g.nm _ ((ios c hcm).subset (List.mem_map_of_mem hl)))), trivial, trivial⟩
            have hz6 := sm6 D0 _ nDa hz
            have n0 : ¬ (fun x => H x = none ∧ x ≠ D0) a := fun z => by
              have z1 : H a = none := z.1
              rw [hu0] at z1
              cases z1
            have st : ∀ o, Stay (fun x => H x = none ∧ x ≠ D0) H6 (upd H6 D0 o) := fun o => stay_upd hz6 (nd_lst fun z => z.2 rfl)
            have hzl := rz.length
            rw [List.length_map] at hzl
            have hml := mz.len
            rw [List.length_take] at hml
            obtain ⟨fs, hf, rf⟩ := reps_perm perm (Reps.free (S' := fun _ => False) (sameS_reps sm6 hs5 hS rts) (litsD_free c))
            obtain ⟨c', hc', rfl⟩ := perm_map_inv hf rfl
            have hrr : H rr = none := sameS_back (smH4.trans sm5) hs5 hr6
            have nrD : rr ≠ D0 := fun z => by rw [z, hz] at hr6; cases hr6
            refine ⟨zs, hz6, Nat.lt_of_lt_of_le (show zs.length < 1000 by omega) (by decide), (sm5.trans sm6).at hD, zs ++ [.ref rr], cs' ++ [c'], upd_same, ?_, ?_, ?_⟩
            · rw [List.map_append]
              refine Reps.append (Reps.mono (fun _ z => z) (st _) (sameS_reps sm6 hs5 n0 rz)) (Reps.one (Rep.mono (fun _ z => z) (st _) ⟨rr, ys, rfl, ⟨hrr, nrD⟩, hy6, Reps.mono (fun _ z => z.elim) (fun _ _ e _ => e) rf⟩))
            · rw [List.take_add_one, hcc]
              exact mz.snoc hc'
            · exact (hs6.mono (by omega)).at nDa
        · rintro H5 ⟨sm5, zs, cs', hz, rz, mz, hs5⟩
          rw [hul, List.take_length] at mz
          rw [hul] at hs5
          have mc := mz.cond g.nd ios
          have hcl2 := mz.len
          have hsz : szs (cs'.map litsD) ≤ 40 * cs'.length := clauses_sz fun c hc => Nat.le_trans (mc c hc).2 hnl
          have hszD : (clausesD cs').sz = szs (cs'.map litsD) + 1 := rfl
          have hsH5 := smH4.trans sm5
          refine ⟨fun x => H x = none, a, n + (D.lst (ps.map pairD)).sz + 1500 * i + 13 * cs.length, clausesD cs', .ref D0, rfl, hs5, by omega, by omega, ⟨D0, zs, rfl, nDH, hz, Reps.mono (fun _ z => z.1) (fun _ _ e _ => e) rz⟩, (fun z => by
            have z1 : H a = none := z
            rw [hu0] at z1
            cases z1), oks_mem (fun d hd => by
              obtain ⟨c, hc, rfl⟩ := List.mem_map.mp hd
              exact lits_ok fun l hl => qNames_ok _ (g.nm _ ((mc c hc).1.1 l hl))), fun H6 v' e sm6 re le hs6 => ?_⟩
          have hD6 := sm6 D1 _ nD1a (sm5 D1 _ nD1a hD4)
          have hvl := r4.length
          have st : ∀ o, Stay (fun x => (H x = none ∧ x ≠ h0) ∧ x ≠ D1) H6 (upd H6 D1 o) := fun o => stay_upd hD6 (nd_lst fun z => z.2 rfl)
          refine ⟨vs, hD6, Nat.lt_of_lt_of_le (show vs.length < 1000 by omega) (by decide), ((sm4.trans sm5).trans sm6).at hD1, vs ++ [v'], es ++ [e], upd_same, ?_, by rw [List.length_append, l4]; rfl, ?_, ?_⟩
          · refine Reps.append (Reps.mono (fun _ z => z) (st _) (sameS_reps (sm5.trans sm6) hs4 nS r4)) (Reps.one (Rep.mono (fun _ z => z) (st _) (Rep.mono (fun y z => ⟨⟨?_, fun q => ?_⟩, fun q => ?_⟩) (fun _ _ e _ => e) re)))
            · exact sameS_back hsH5 hs5 z
            · have z1 : H5 y = none := z
              rw [q, sm5 h0 _ nha hh4] at z1
              cases z1
            · have z1 : H5 y = none := z
              rw [q, sm5 D1 _ nD1a hD4] at z1
              cases z1
          · intro j e2 he2
            by_cases hj : j < es.length
            · rw [List.getElem?_append_left hj] at he2
              exact c4 j e2 he2
            · rw [List.getElem?_append_right (by omega)] at he2
              have z : j - es.length = 0 := by
                cases q : j - es.length with
                | zero => rfl
                | succ y => rw [q] at he2; cases he2
              rw [z] at he2
              cases (show some e = some e2 from he2)
              have : j = i := by omega
              subst this
              exact ⟨cs, cs', hcs, mz, le⟩
          · exact (hs6.mono (by omega)).at nD1a
      · rintro H4 ⟨sm4, vs, es, hD4, r4, l4, c4, hs4⟩
        have hvl := r4.length
        match es, vs, l4, hvl, hD4, r4, c4 with
        | [e1, e2], [v1, v2], _, _, hD4, r4, c4 =>
          obtain ⟨_, _, q1, r1, _, _, q2, r2, _⟩ := r4
          cases q1
          cases q2
          obtain ⟨cs0, cw', hcs0, mw, lw⟩ := c4 0 e1 rfl
          obtain ⟨cs1, cg', hcs1, mg', lg⟩ := c4 1 e2 rfl
          cases (show some cw = some cs0 from hcs0)
          cases (show some cg = some cs1 from hcs1)
          have hs4 : Strm H4 a (n + (D.lst (ps.map pairD)).sz + 3000) := hs4
          have hh4 := sm4 h0 _ nha hh3
          have n0 : ¬ (fun x => H x = none ∧ x ≠ h0) a := fun z => by
            have z1 : H a = none := z.1
            rw [hu0] at z1
            cases z1
          have re4 := sameS_rep sm4 hs3 n0 re3
          have st : Stay (fun x => H x = none ∧ x ≠ h0) H4 (upd H4 h0 (.lst ([v0] ++ [v1, v2]))) := stay_upd hh4 (nd_lst fun z => z.2 rfl)
          refine ⟨h0, D1, _, _, rfl, rfl, hh4, hD4, by show 1 + 2 ≤ sizeLine; decide, hD' _ _ ⟨rfl, (sm3.trans sm4).at nh0H, v1, v2, e1, e2, cw', cg', upd_same, ?_, mw, lw, mg', lg, (hs4.mono (by omega)).at nha⟩⟩
          exact ⟨v0, _, rfl, Rep.mono (fun _ z => z) st re4, v1, _, rfl, Rep.mono (fun _ z => z) st (Rep.mono (fun _ z => z.1) (fun _ _ e _ => e) r1), v2, _, rfl, Rep.mono (fun _ z => z) st (Rep.mono (fun _ z => z.1) (fun _ _ e _ => e) r2), rfl⟩
    rintro σ H5 ⟨rfl, sm5, v1, v2, e1, e2, cw', cg', hh5, r5, mw, lw, mg', lg, hs5⟩
    have mcw := mw.cond g.nd g.w
    have mcg := mg'.cond g.nd g.g
    have glw := g.lw
    have glg := g.lg
    have mlw := mw.len
    have mlg := mg'.len
    have c1 := clauses_sz (cs := cw') fun c hc => Nat.le_trans (mcw c hc).2 hnl
    have c2 := clauses_sz (cs := cg') fun c hc => Nat.le_trans (mcg c hc).2 hnl
    have nw : (clausesD cw').ok 3 ∧ (clausesD cw').nice := by
      refine ⟨oks_mem fun d hd => ?_, nices_mem fun d hd => ?_⟩ <;> obtain ⟨c, hc, rfl⟩ := List.mem_map.mp hd
      · exact lits_ok1 fun l hl => g.nm _ ((mcw c hc).1.1 l hl)
      · exact lits_nice fun l hl => g.nm _ ((mcw c hc).1.1 l hl)
    have ng : (clausesD cg').ok 3 ∧ (clausesD cg').nice := by
      refine ⟨oks_mem fun d hd => ?_, nices_mem fun d hd => ?_⟩ <;> obtain ⟨c, hc, rfl⟩ := List.mem_map.mp hd
      · exact lits_ok1 fun l hl => g.nm _ ((mcg c hc).1.1 l hl)
      · exact lits_nice fun l hl => g.nm _ ((mcg c hc).1.1 l hl)
    have ok3 : oks 3 [e0, e1, e2] := ⟨le0.ok pok.1, lw.ok nw.1, lg.ok ng.1, trivial⟩
    have ni3 : nices [e0, e1, e2] := ⟨le0.nice pok.2, lw.nice nw.2, lg.nice ng.2, trivial⟩
    have sz3 : szs [e0, e1, e2] ≤ 2000 := by
      have z0 := le0.sz
      have z1 := lw.sz
      have z2 := lg.sz
      have y1 : (clausesD cw').sz = szs (cw'.map litsD) + 1 := rfl
      have y2 : (clausesD cg').sz = szs (cg'.map litsD) + 1 := rfl
      show e0.sz + (e1.sz + (e2.sz + 0)) ≤ 2000
      omega
    have rh5 : Rep (fun _ => True) H5 (.lst [e0, e1, e2]) (.ref h0) := ⟨h0, _, rfl, trivial, hh5, Reps.mono (fun _ _ => trivial) (fun _ _ e _ => e) r5⟩
    have okh : (D.lst [e0, e1, e2]).ok 4 := ok3
    obtain ⟨p1, p2, p3, p4⟩ := nice_repr (d := .lst [e0, e1, e2]) ni3 okh (by decide) (by show szs [e0, e1, e2] + 1 ≤ 20000; omega)
    obtain ⟨S5, hS5⟩ : ∃ S5 : Addr → Prop, S5 = fun b => (H b = none ∧ b ≠ h0) ∧ ∃ us, H5 b = some (.lst us) := ⟨_, rfl⟩
    have r5S : Reps S5 H5 [e0, e1, e2] [v0, v1, v2] := by rw [hS5]; exact r5.hereL
    have t5 : Tabs T H5 := tabs_sameS sm5 hu0 t0
    obtain ⟨S0, hS0⟩ : ∃ S0 : Addr → Prop, S0 = fun b => S b ∧ H b ≠ none := ⟨_, rfl⟩
    have hq0 : Rep S0 H (qD ps cw cg) (.ref r) := by rw [hS0]; exact hq.here
    have nS0 : ¬ S0 a := by rw [hS0]; exact fun z => hS z.1
    have q5 := sameS_rep sm5 hs nS0 hq0
    obtain ⟨_, _, q0v, rr0, _, _, q1v, rr1, _, _, q2v, rr2, q3v⟩ := id r5
    cases q0v
    cases q1v
    cases q2v
    refine ⟨_, rfl, h0, (D.lst [e0, e1, e2]).py, rfl, rh5.dp okh, p1, p2, p3, p4, ?_⟩
    refine ⟨_, rfl, h0, _, 0, v0, rfl, rfl, SqL.of hh5, atI_nat (j := 0) rfl, _, rfl, h0, _, 1, v1, rfl, rfl, SqL.of hh5, atI_nat (j := 1) rfl, _, rfl, h0, _, 2, v2, rfl, rfl, SqL.of hh5, atI_nat (j := 2) rfl, fun x dx nx ndx ne => ?_⟩
    refine mk_good (S := fun _ => True) g nx ndx ne (Rep.mono (fun _ _ => trivial) (fun _ _ e _ => e) rr0) (Rep.mono (fun _ _ => trivial) (fun _ _ e _ => e) rr1) (Rep.mono (fun _ _ => trivial) (fun _ _ e _ => e) rr2) le0 lw lg mw mg' t5 fun H6 eN6 t6 qa => ⟨rfl, _, _, rfl, ?_⟩
    have q6 := q5.extN eN6
    have hh6 := eN6 _ _ hh5 (fun _ z => nomatch z)
    obtain ⟨_, _, er6, hr6, m6, _, em6, rm6, wv6, _, ew6, rw6, gv6, _, eg6, rg6, en6⟩ := id q6
    cases er6
    cases em6
    cases ew6
    cases eg6
    cases en6
    refine ⟨_, rfl, r, _, 2, gv6, rfl, rfl, SqT.of hr6, atI_nat (j := 2) rfl, _, rfl, r, _, 1, wv6, rfl, rfl, SqT.of hr6, atI_nat (j := 1) rfl, _, rfl, r, _, 0, m6, rfl, rfl, SqT.of hr6, atI_nat (j := 0) rfl, rfl, rfl, fun x2 dx2 nx2 ndx2 ne2 => ?_⟩
    refine mk_good (S := S0) g nx2 ndx2 ne2 rm6 rw6 rg6 (Loose.refl _) (Loose.refl _) (Loose.refl _) (Mx.refl _) (Mx.refl _) t6 fun H7 eN7 t7 qb => ⟨rfl, ?_⟩
    have eN57 := eN6.trans eN7
    have qa7 := qAt_extN qa eN7
    have q7 := q6.extN eN7
    have rh7 := rh5.extN eN57
    obtain ⟨dxa, _, _, _, _, _, _, _, _, _, axa, _⟩ := id qa7
    obtain ⟨dxb, _, _, _, _, _, _, _, _, _, axb, _⟩ := id qb
    have hgok := goodQ_ok g
    have hh : ∀ p ∈ ps, p.2.isHand = true := fun p hp => (qHands_ok (g.hd p hp)).1
    have l1000 : ps.length ≤ 1000 ∧ cw.length ≤ 1000 ∧ cg.length ≤ 1000 := ⟨by omega, by omega, by omega⟩
    refine ⟨_, rfl, h0, (D.lst [e0, e1, e2]).py, rfl, rh7.dp okh, p1, p2, p3, p4, ?_⟩
    refine ⟨_, rfl, ?_⟩
    refine ⟨rfl, _, rfl, ?_⟩
    rw [decide_eq_true (rfl : V.str (D.lst [e0, e1, e2]).py.shown = V.str (D.lst [e0, e1, e2]).py.shown)]
    refine iteF ?_
    refine ⟨_, rfl, _, x, ps, cw, cg, rfl, qa7, l1000.1, l1000.2.1, l1000.2.2, hh, fun H8 pa sm8 rpa => ?_⟩
    have qb8 := qb.same sm8
    refine ⟨_, rfl, _, x2, ps, cw, cg, rfl, qb8, l1000.1, l1000.2.1, l1000.2.2, hh, fun H9 pb sm9 rpb => ?_⟩
    refine ⟨by show 2 ≤ sizeLine; decide, fun la nla => ?_⟩
    have sm10 : Same H9 (upd H9 la (.lst [pa, pb])) := Same.new nla
    have hla : upd H9 la (.lst [pa, pb]) la = some (.lst [pa, pb]) := upd_same
    generalize upd H9 la (.lst [pa, pb]) = H10 at sm10 hla ⊢
    refine ⟨_, rfl, _, rfl, by show 2 ≤ sizeLine; decide, fun lb nlb => ?_⟩
    have sm11 : Same H10 (upd H10 lb (.lst [.ref r, .ref r])) := Same.new nlb
    have hlb : upd H10 lb (.lst [.ref r, .ref r]) lb = some (.lst [.ref r, .ref r]) := upd_same
    generalize upd H10 lb (.lst [.ref r, .ref r]) = H11 at sm11 hlb ⊢
    have sm7 : Same H7 H11 := ((sm8.trans sm9).trans sm10).trans sm11
    have q11 := q7.same sm7
    have any : ∀ {S : Addr → Prop} {H : Hp} {d : D} {v : V}, Rep S H d v → Rep (fun _ => True) H d v := fun r => Rep.mono (fun _ _ => trivial) (fun _ _ e _ => e) r
    refine ⟨(fun _ => True), (fun _ => True), .lst [qD ps cw cg, qD ps cw cg], .ref la, .ref lb, rfl, ⟨la, _, rfl, trivial, sm11 _ _ hla, pa, _, rfl, any (rpa.same ((sm9.trans sm10).trans sm11)), pb, _, rfl, any (rpb.same (sm10.trans sm11)), rfl⟩,
      ⟨lb, _, rfl, trivial, hlb, .ref r, _, rfl, any q11, .ref r, _, rfl, any q11, rfl⟩, ⟨hgok.1, hgok.1, trivial⟩, (by show (qD ps cw cg).sz + ((qD ps cw cg).sz + 0) + 1 ≤ 1000000; have := hgok.2; omega), fun H12 sm12 => ⟨_, rfl, ?_⟩⟩
    refine iteF ?_
    have sm7b := sm7.trans sm12
    have qa12 := qa7.same sm7b
    have qb12 := qb.same sm7b
    have q12 := q7.same sm7b
    have t12 := t7.ext sm7b
    have eN512 := eN57.trans (extN_of sm7b)
    have hh12 := eN512 _ _ hh5 (fun _ z => nomatch z)
    have nh0S : ¬ S5 h0 := by rw [hS5]; exact fun z => z.1.2 rfl
    have r12 := r5S.extN eN512
    refine ⟨_, rfl, h0, rfl, ⟨_, SqL.of hh12⟩, for_list (K := K) (a := h0) (xs := [v0, v1, v2]) (fun i σ H' => (∃ o6 o7, σ = [some (.ref a), some (.ref r), some (.ref h0), some (.str (D.lst [e0, e1, e2]).py.shown), some (.ref x), some (.ref x2), o6, o7]) ∧ Late S5 (nls ([e0, e1, e2].take i)) H12 H') ⟨⟨_, _, rfl⟩, Late.of (fun _ _ e => e)⟩ (fun i σ H' _ y => SqL.of (y.2.at hh12 nh0S)) ?_ ?_⟩
    · rintro i v σ H' hv ⟨⟨o6, o7, rfl⟩, lt⟩
      obtain ⟨e, M, y1, y2, y3, y4, y5⟩ := late_step r12 ok3 (by omega) hv lt
      exact ⟨_, rfl, S5, e, v, M, rfl, y1, y2, y3, y4, fun H3 l3 => ⟨⟨_, _, rfl⟩, y5 H3 l3⟩⟩
    · rintro σ H13 ⟨⟨o6, o7, rfl⟩, lt⟩
      have nSa : ∀ b, NewN H5 b → ¬ S5 b := fun b z y => by
        rw [hS5] at y
        obtain ⟨us, hu⟩ := y.2
        obtain ⟨_, q⟩ := z _ hu
        cases q
      have nSb : ∀ b, NewN H6 b → ¬ S5 b := fun b z => nSa b (z.back eN6)
      have nSq : ∀ b, S0 b → ¬ S5 b := fun b z y => by
        rw [hS0] at z
        rw [hS5] at y
        exact z.2 y.1.1
      have qa13 := qAt_late qa12 lt nSa
      have qb13 := qAt_late qb12 lt nSb
      have q13 : Rep S0 H13 (qD ps cw cg) (.ref r) := Rep.mono (fun _ z => z) (lt.stay nSq) q12
      have t13 := tabs_late lt t12
      have x13 : ExtS a H H13 := fun b o nb e nt => lt.at (eN512 _ _ (sm5 b o nb e) nt) (fun y => by
        rw [hS5] at y
        rw [y.1.1] at e
        cases e)
      have hs13 : Strm H13 a (n + 4000) := by
        obtain ⟨c, m2, k2, y1, y2⟩ := strm_extN hs5 eN512
        refine ⟨c, m2, k2, lt.at y1 (fun y => ?_), y2⟩
        rw [hS5] at y
        rw [y.1.1] at hu0
        cases hu0
      refine ⟨_, rfl, _, x, ps, cw, cg, rfl, qa13, l1000.1, l1000.2.1, l1000.2.2, hh, fun H14 pc sm14 rpc => ?_⟩
      obtain ⟨pcA, _, rfl, hpc, mc, _, rfl, rmc, wc, _, rfl, rwc, gc, _, rfl, rgc, rfl⟩ := rpc
      have okp : oks 3 [.lst (ps.map pairD), clausesD cw, clausesD cg] := ⟨pok.1, (clauses_ok g.w g.nm).1, (clauses_ok g.g g.nm).1, trivial⟩
      refine ⟨pcA, rfl, ⟨_, SqT.of hpc⟩, for_tup (K := K) (a := pcA) (xs := [mc, wc, gc]) (fun i σ H' => (∃ o6 o7, σ = [some (.ref a), some (.ref r), some (.ref h0), some (.str (D.lst [e0, e1, e2]).py.shown), some (.ref x), some (.ref x2), o6, o7]) ∧ Late (fun b => H13 b = none) (nls ([.lst (ps.map pairD), clausesD cw, clausesD cg].take i)) H14 H') ⟨⟨_, _, rfl⟩, Late.of (fun _ _ e => e)⟩ (fun i σ H' _ y => SqT.of (y.2.other hpc (fun _ z => nomatch z))) ?_ ?_⟩
      · rintro i v σ H' hv ⟨⟨o6, o7, rfl⟩, lt2⟩
        obtain ⟨e, M, y1, y2, y3, y4, y5⟩ := late_step (es := [.lst (ps.map pairD), clausesD cw, clausesD cg]) (Hb := H14) (vs := [mc, wc, gc]) ⟨mc, _, rfl, rmc, wc, _, rfl, rwc, gc, _, rfl, rgc, rfl⟩ okp (by
          have := hgok.2
          have y : (qD ps cw cg).sz = szs [.lst (ps.map pairD), clausesD cw, clausesD cg] + 1 := rfl
          omega) hv lt2
        exact ⟨_, rfl, (fun b => H13 b = none), e, v, M, rfl, y1, y2, y3, y4, fun H3 l3 => ⟨⟨_, _, rfl⟩, y5 H3 l3⟩⟩
      · rintro σ H15 ⟨⟨o6, o7, rfl⟩, lt2⟩
        have sm15 : Same H13 H15 := late_same sm14 lt2
        have qa15 := qa13.same sm15
        have qb15 := qb13.same sm15
        refine ⟨_, rfl, _, x, ps, cw, cg, rfl, qa15, l1000.1, l1000.2.1, l1000.2.2, hh, fun H16 pd sm16 rpd => ?_⟩
        have sm1316 := sm15.trans sm16
        refine ⟨_, rfl, (fun _ => True), (fun _ => True), qD ps cw cg, pd, .ref r, rfl, any rpd, any (q13.same sm1316), D.ok_le hgok.1 (by decide), (by have := hgok.2; omega), fun H17 sm17 => ⟨_, rfl, ?_⟩⟩
        have sm1317 := sm1316.trans sm17
        have qa17 := qa13.same sm1317
        have qb17 := qb13.same sm1317
        obtain ⟨dxa, _, _, _, _, _, _, _, _, _, axa, _⟩ := id qa17
        obtain ⟨dxb, _, _, _, _, _, _, _, _, _, axb, _⟩ := id qb17
        have okq := okQ_of g
        have nf : PySem.W.notFirst K W.Z.C (.ref W.Z.C) = true := by unfold PySem.W.notFirst; simp
        have e1q := eqQ_refl okq
        refine iteT ?_
        refine ⟨_, rfl, _, rfl, x, dxa, _, .ref W.Z.C, rfl, axa, Y.I.ins axb, nf, x, .ref x2, rfl, .inr ⟨_, _, x2, ps, ps, cw, cw, cg, cg, rfl, qa17, qb17, okq, okq, _, rfl, _, rfl, ?_⟩⟩
        rw [e1q]
        refine iteT ?_
        refine ⟨_, rfl, _, rfl, x, dxa, _, .ref W.Z.C, rfl, axa, Y.I.ins axb, nf, x, .ref x2, rfl, .inr ⟨_, _, x2, ps, ps, cw, cw, cg, cg, rfl, qa17, qb17, okq, okq, _, rfl, _, rfl, ?_⟩⟩
        rw [e1q]
        exact k H17 (x13.trans (ExtS.ofN (extN_of sm1317))) (t13.ext sm1317) ((hs13.same sm1317).mono (by omega))
end
end Q1

set_option Elab.async false
set_option maxRecDepth 100000
set_option maxHeartbeats 4000000
namespace Q1
open PySem L2 LamX PyProof.Rows
/-! ### expressions that only make data -/
/-- the expression gives a datum, and changes nothing that stands -/
def MkE (S : Addr → Prop) (t : TE) (σ : L2.St) (H : Hp) (d : D) : Prop := ∀ (H1 : Hp) (Q : VK), Same H H1 → (∀ H2 v, Same H1 H2 → Rep S H2 d v → Q v H2) → t σ H1 Q
def MkA (S : Addr → Prop) (t : TA) (σ : L2.St) (H : Hp) (ds : List D) : Prop := ∀ (H1 : Hp) (Q : List V → Hp → Prop), Same H H1 → (∀ H2 vs, Same H1 H2 → Reps S H2 ds vs → Q vs H2) → t σ H1 Q
section
variable {S : Addr → Prop} {σ : L2.St} {H : Hp} {te tf : TE} {ta : TA} {d e : D} {ds es : List D} {K : PySem.W.Frag}
theorem run_mk {Q : VK} (h : MkE S te σ H d) (k : ∀ H2 v, Same H H2 → Rep S H2 d v → Q v H2) : te σ H Q := h H Q (Same.refl _) k
theorem run_lst {Q : VK} (h : MkA S ta σ H ds) (hl : Nat.ble ds.length 1000 = true) (k : ∀ H2 vs, Same H H2 → Reps S H2 ds vs → ∀ p, H2 p = none → Q (.ref p) (upd H2 p (.lst vs))) : tLst ta σ H Q := h H _ (Same.refl _) fun H2 vs s2 rs => ⟨by rw [rs.length]; exact Nat.le_trans (Nat.le_of_ble_eq_true hl) (by decide), fun p hp => k H2 vs s2 rs p hp⟩
theorem run_setL {D : Ends} {t2 : TS} {i : Nat} (h : MkA S ta σ H ds) (hl : Nat.ble ds.length 1000 = true) (k : ∀ H2 vs, Same H H2 → Reps S H2 ds vs → ∀ p, H2 p = none → t2 D (σ.set i (some (.ref p))) (upd H2 p (.lst vs))) : tSeq (tAsg (tLst ta) (gName i)) t2 D σ H := run_lst (Q := fun v H' => t2 D (σ.set i (some v)) H') h hl k
theorem run_set {D : Ends} {t2 : TS} {i : Nat} (h : MkE S te σ H d) (k : ∀ H2 v, Same H H2 → Rep S H2 d v → t2 D (σ.set i (some v)) H2) : tSeq (tAsg te (gName i)) t2 D σ H := h H _ (Same.refl _) k
theorem mk_eq (h : MkE S te σ H d) (e2 : d = e) : MkE S te σ H e := e2 ▸ h
theorem mk_var {i : Nat} {v : V} (h : σ[i]? = some (some v)) (r : Rep S H d v) : MkE S (tVar i) σ H d := fun H1 _ s k => ⟨v, h, k H1 v (Same.refl _) (r.same s)⟩
theorem mk_str {x : Str} : MkE S (tC (.str x)) σ H (.str x) := fun H1 _ _ k => k H1 _ (Same.refl _) rfl
theorem mk_int {i : Int} : MkE S (tC (.int i)) σ H (.int i) := fun H1 _ _ k => k H1 _ (Same.refl _) rfl
theorem mk_bl {b : Bool} : MkE S (tC (.bl b)) σ H (.bl b) := fun H1 _ _ k => k H1 _ (Same.refl _) rfl
theorem mk_non : MkE S (tC .non) σ H .non := fun H1 _ _ k => k H1 _ (Same.refl _) rfl
theorem mkA_nil : MkA S tNil σ H [] := fun H1 _ _ k => k H1 [] (Same.refl _) rfl
theorem mkA_cons (h : MkE S te σ H d) (k : MkA S ta σ H ds) : MkA S (tCons te ta) σ H (d :: ds) := fun H1 _ s q => h H1 _ s fun _ _ s2 r => k _ _ (s.trans s2) fun H3 vs s3 rs => q H3 (_ :: vs) (s2.trans s3) ⟨_, vs, rfl, r.same s3, rs⟩
theorem mk_tup (h : MkA S ta σ H ds) (hl : Nat.ble ds.length 1000 = true := by rfl) : MkE S (tTup ta) σ H (.tup ds) := fun H1 _ s k => h H1 _ s fun _ vs s2 rs => ⟨by rw [rs.length]; exact Nat.le_trans (Nat.le_of_ble_eq_true hl) (by decide), fun p hp => k _ (.ref p) (s2.trans (Same.new hp)) ⟨p, vs, rfl, upd_same, rs.same (Same.new hp)⟩⟩
theorem mk_lst (hS : ∀ p, H p = none → S p) (h : MkA S ta σ H ds) (hl : Nat.ble ds.length 1000 = true := by rfl) : MkE S (tLst ta) σ H (.lst ds) := fun H1 _ s k => h H1 _ s fun _ vs s2 rs => ⟨by rw [rs.length]; exact Nat.le_trans (Nat.le_of_ble_eq_true hl) (by decide), fun p hp => k _ (.ref p) (s2.trans (Same.new hp)) ⟨p, vs, rfl, hS p (none_back (s.trans s2) hp), upd_same, rs.same (Same.new hp)⟩⟩
theorem mk_cat (hS : ∀ p, H p = none → S p) (h : MkE S te σ H (.lst ds)) (k : MkE S tf σ H (.lst es)) (hl : ds.length + es.length ≤ 1000) : MkE S (tOp rCat te tf) σ H (.lst (ds ++ es)) := fun H1 _ s q => h H1 _ s fun H2 v s2 r => k H2 _ (s.trans s2) fun H3 u s3 r2 => by
  obtain ⟨a, vs, rfl, _, ha, ra⟩ := r.same s3
  obtain ⟨b, us, rfl, _, hb, rb⟩ := r2
  refine ⟨a, b, vs, us, rfl, rfl, ha, hb, by rw [ra.length, rb.length]; exact Nat.le_trans hl (by decide), fun p hp => q _ (.ref p) ((s2.trans s3).trans (Same.new hp)) ⟨p, _, rfl, hS p (none_back ((s.trans s2).trans s3) hp), upd_same, Reps.append (ra.same (Same.new hp)) (rb.same (Same.new hp))⟩⟩
theorem mk_ixL {i : Int} (h : MkE S te σ H (.lst ds)) (k : MkE S tf σ H (.int i)) (hi : ∀ vs : List V, vs.length = ds.length → ∃ j : Nat, ds[j]? = some d ∧ atI vs i = vs[j]?) : MkE S (tOp (rIxL K) te tf) σ H d := fun H1 _ s q => h H1 _ s fun H2 v s2 r => k H2 _ (s.trans s2) fun H3 u s3 r2 => by
  obtain ⟨a, vs, rfl, _, ha, ra⟩ := r.same s3
  cases (show u = .int i from r2)
  obtain ⟨j, hj, e⟩ := hi vs ra.length
  have hl := ra.length
  have hjl : j < vs.length := by rw [hl]; exact (List.getElem?_eq_some_iff.mp hj).1
  have hv : vs[j]? = some vs[j] := List.getElem?_eq_getElem hjl
  obtain ⟨d2, h2, r3⟩ := ra.get hv
  rw [hj] at h2
  cases h2
  exact ⟨a, vs, i, vs[j], rfl, rfl, SqL.of ha, by rw [e, hv], q H3 _ (s2.trans s3) r3⟩
theorem mk_ixT {i : Int} (h : MkE S te σ H (.tup ds)) (k : MkE S tf σ H (.int i)) (hi : ∀ vs : List V, vs.length = ds.length → ∃ j : Nat, ds[j]? = some d ∧ atI vs i = vs[j]?) : MkE S (tOp (rIxT K) te tf) σ H d := fun H1 _ s q => h H1 _ s fun H2 v s2 r => k H2 _ (s.trans s2) fun H3 u s3 r2 => by
  obtain ⟨a, vs, rfl, ha, ra⟩ := r.same s3
  cases (show u = .int i from r2)
  obtain ⟨j, hj, e⟩ := hi vs ra.length
  have hl := ra.length
  have hjl : j < vs.length := by rw [hl]; exact (List.getElem?_eq_some_iff.mp hj).1
  have hv : vs[j]? = some vs[j] := List.getElem?_eq_getElem hjl
  obtain ⟨d2, h2, r3⟩ := ra.get hv
  rw [hj] at h2
  cases h2
  exact ⟨a, vs, i, vs[j], rfl, rfl, SqT.of ha, by rw [e, hv], q H3 _ (s2.trans s3) r3⟩
/-- the place of an index that is a natural number -/
theorem at_nat {j : Nat} (h : ds[j]? = some d) : ∀ vs : List V, vs.length = ds.length → ∃ j' : Nat, ds[j']? = some d ∧ atI vs (j : Int) = vs[j']? := fun vs hl => ⟨j, h, by
  have hjl : j < vs.length := by rw [hl]; exact (List.getElem?_eq_some_iff.mp h).1
  have hv : vs[j]? = some vs[j] := List.getElem?_eq_getElem hjl
  rw [hv]
  exact atI_nat hv⟩
theorem Reps.drop : ∀ {ds : List D} {vs : List V} (n : Nat), Reps S H ds vs → Reps S H (ds.drop n) (vs.drop n)
  | _, _, 0, h => h
  | [], _, n + 1, h => by cases (show _ = [] from h); rfl
  | d :: ds, _, n + 1, h => by
    obtain ⟨v, r, rfl, _, h2⟩ := h
    exact Reps.drop n h2
theorem Reps.rev : ∀ {ds : List D} {vs : List V}, Reps S H ds vs → Reps S H ds.reverse vs.reverse
  | [], _, h => by cases (show _ = [] from h); rfl
  | d :: ds, _, h => by
    obtain ⟨v, r, rfl, h1, h2⟩ := h
    rw [List.reverse_cons, List.reverse_cons]
    exact Reps.append (Reps.rev h2) (Reps.one h1)
theorem cutV_drop (xs : List V) (k : Nat) : cutV xs (some (k : Int)) none = xs.drop k := by
  unfold cutV
  rw [HT.sIx_nat, HT.sIx_none]
  by_cases h : k ≤ xs.length
  · rw [Nat.min_eq_left h, List.take_of_length_le (by rw [List.length_drop]; exact Nat.le_refl _)]
  · rw [Nat.min_eq_right (by omega), List.drop_length, List.drop_eq_nil_of_le (by omega), List.take_nil]
theorem mk_from {k : Nat} (hS : ∀ p, H p = none → S p) (h : MkE S te σ H (.lst ds)) (hk : MkE S tf σ H (.int (k : Nat))) : MkE S (tSl (rSlL K) te (tPart tf) tNoPart) σ H (.lst (ds.drop k)) := fun H1 _ s q => h H1 _ s fun H2 v s2 r => hk H2 _ (s.trans s2) fun H3 u s3 r2 => by
  obtain ⟨a, vs, rfl, _, ha, ra⟩ := r.same s3
  cases (show u = .int (k : Nat) from r2)
  refine ⟨(k : Nat), rfl, a, vs, rfl, SqL.of ha, fun p hp => ?_⟩
  rw [cutV_drop]
  exact q _ (.ref p) ((s2.trans s3).trans (Same.new hp)) ⟨p, _, rfl, hS p (none_back ((s.trans s2).trans s3) hp), upd_same, (ra.drop k).same (Same.new hp)⟩
theorem mk_to {k : Nat} (hS : ∀ p, H p = none → S p) (h : MkE S te σ H (.lst ds)) (hk : MkE S tf σ H (.int (k : Nat))) : MkE S (tSl (rSlL K) te tNoPart (tPart tf)) σ H (.lst (ds.take k)) := fun H1 _ s q => h H1 _ s fun H2 v s2 r => hk H2 _ (s.trans s2) fun H3 u s3 r2 => by
  obtain ⟨a, vs, rfl, _, ha, ra⟩ := r.same s3
  cases (show u = .int (k : Nat) from r2)
  refine ⟨(k : Nat), rfl, a, vs, rfl, SqL.of ha, fun p hp => ?_⟩
  rw [cutV_take]
  exact q _ (.ref p) ((s2.trans s3).trans (Same.new hp)) ⟨p, _, rfl, hS p (none_back ((s.trans s2).trans s3) hp), upd_same, (ra.take k).same (Same.new hp)⟩
theorem mk_rev (hS : ∀ p, H p = none → S p) (h : MkE S te σ H (.lst ds)) : MkE S (tRevL K te) σ H (.lst ds.reverse) := fun H1 _ s q => h H1 _ s fun H2 v s2 r => by
  obtain ⟨a, vs, rfl, _, ha, ra⟩ := r
  exact ⟨a, vs, rfl, SqL.of ha, fun p hp => q _ (.ref p) (s2.trans (Same.new hp)) ⟨p, _, rfl, hS p (none_back (s.trans s2) hp), upd_same, ra.rev.same (Same.new hp)⟩⟩
theorem mk_not {b : Bool} (h : MkE S te σ H (.bl b)) : MkE S (tNotV te) σ H (.bl (!b)) := fun H1 _ s q => h H1 _ s fun H2 v s2 r => by
  cases (show v = .bl b from r)
  exact ⟨b, rfl, q H2 _ s2 rfl⟩
theorem mk_addI {i j : Int} (h : MkE S te σ H (.int i)) (k : MkE S tf σ H (.int j)) : MkE S (tOp (rI0 fun i j => .int (i + j)) te tf) σ H (.int (i + j)) := fun H1 _ s q => h H1 _ s fun H2 v s2 r => k H2 _ (s.trans s2) fun H3 u s3 r2 => by
  cases (show v = .int i from r)
  cases (show u = .int j from r2)
  exact ⟨i, j, rfl, rfl, q H3 _ (s2.trans s3) rfl⟩
theorem run_setLcT {D : Ends} {t2 : TS} {g gi : TG} {tt : TT} {tb : TE} {own : List Nat} (h : MkE S te σ H d) (k : ∀ H2 v, Same H H2 → Rep S H2 d v → tSeq (tAsg (tLc (iTup K (tC v)) g tt tb own) gi) t2 D σ H2) : tSeq (tAsg (tLc (iTup K te) g tt tb own) gi) t2 D σ H := h H _ (Same.refl _) k
theorem run_first {D : Ends} {t2 : TS} {gi : TG} (h : MkE S te σ H d) (k : ∀ H2 v, Same H H2 → Rep S H2 d v → tSeq (tAsg (tTup (tCons (tC v) ta)) gi) t2 D σ H2) : tSeq (tAsg (tTup (tCons te ta)) gi) t2 D σ H := h H _ (Same.refl _) k
/-- a test d != e of data -/
theorem mk_neD {n : Nat} {Q : Bool → Hp → Prop} (h : MkE S te σ H d) (k : MkE S tf σ H e) (hd : d.ok n) (he : e.ok n) (hn : n ≤ 64) (q : ∀ H2, Same H H2 → Q (!d.eq e) H2) : tTest (tOp (rNeD K) te tf) σ H Q := h H _ (Same.refl _) fun H2 v s2 r => k H2 _ s2 fun H3 u s3 r2 =>
  ⟨d.py, e.py, (r.same s3).dp hd, r2.dp he, D.ok_shaped hd hn, D.ok_shaped he hn, _, rfl, q H3 (s2.trans s3)⟩
theorem run_ifNe {n : Nat} {D : Ends} {t u : TS} (h : MkE S te σ H d) (k : MkE S tf σ H e) (hd : d.ok n) (he : e.ok n) (hn : n ≤ 64) (q : ∀ H2, Same H H2 → if (!d.eq e) = true then t D σ H2 else u D σ H2) : tIfS (tTest (tOp (rNeD K) te tf)) t u D σ H := mk_neD (Q := fun b H2 => if b = true then t D σ H2 else u D σ H2) h k hd he hn q
theorem run_ifAndNe {n : Nat} {D : Ends} {t u : TS} {tt : TT} (h : MkE S te σ H d) (k : MkE S tf σ H e) (hd : d.ok n) (he : e.ok n) (hn : n ≤ 64) (q : ∀ H2, Same H H2 → if (!d.eq e) = true then tIfS tt t u D σ H2 else u D σ H2) : tIfS (tAnd (tTest (tOp (rNeD K) te tf)) tt) t u D σ H :=
  mk_neD (Q := fun c H1 => if c = true then tt σ H1 (fun b H2 => if b = true then t D σ H2 else u D σ H2) else if false = true then t D σ H1 else u D σ H1) h k hd he hn fun H2 s2 => by
    have z := q H2 s2
    revert z
    cases (!d.eq e) with
    | true => exact fun z => z
    | false => exact fun z => z
theorem eq_nil : ∀ xs : List D, (D.lst xs).eq (.lst []) = xs.isEmpty
  | [] => rfl
  | _ :: _ => rfl
end
end Q1

set_option Elab.async false
set_option maxRecDepth 100000
set_option maxHeartbeats 4000000
namespace Q1
open PySem L2 LamX PyProof.Rows
/-- a question near to one, as the law holds it -/
abbrev Near := List (Str × D) × List (List (Str × Bool)) × List (List (Str × Bool))
def nearD (q : Near) : D := qD q.1 q.2.1 q.2.2
def ClOk (names : List Str) (cs : List (List (Str × Bool))) : Prop := ∀ c ∈ cs, (∀ l ∈ c, l.1 ∈ names) ∧ (c.map Prod.fst).Nodup ∧ c.length ≤ 13
structure NearOk (names : List Str) (q : Near) : Prop where
  hd : ∀ p ∈ q.1, p.2 ∈ qHands
  nm : ∀ x ∈ q.1.map Prod.fst, x ∈ qNames ∨ x = "n1"
  w : ClOk (q.1.map Prod.fst) q.2.1
  g : ClOk (q.1.map Prod.fst) q.2.2
  io : InOrd names q.2.2
  pl : q.1.length ≤ 14
  lw : q.2.1.length ≤ 50
  lg : q.2.2.length ≤ 50
theorem clOk_of {names : List Str} {cs : List (List (Str × Bool))} (h : InOrd names cs) (nd : names.Nodup) (hl : names.length ≤ 13) : ClOk names cs := fun c hc => by
  have hs := h c hc
  exact ⟨fun l hl => hs.subset (List.mem_map_of_mem hl), hs.nodup nd, inOrd_len h hl c hc⟩
theorem ClOk.mono {names names' : List Str} {cs : List (List (Str × Bool))} (h : ClOk names cs) (hn : ∀ x ∈ names, x ∈ names') : ClOk names' cs := fun c hc => let ⟨a, b, e⟩ := h c hc; ⟨fun l hl => hn _ (a l hl), b, e⟩
theorem ClOk.sub {names : List Str} {cs cs' : List (List (Str × Bool))} (h : ClOk names cs) (hn : ∀ c ∈ cs', c ∈ cs) : ClOk names cs' := fun c hc => h c (hn c hc)
theorem InOrd.sub {names : List Str} {cs cs' : List (List (Str × Bool))} (h : InOrd names cs) (hn : ∀ c ∈ cs', c ∈ cs) : InOrd names cs' := fun c hc => h c (hn c hc)
theorem ClOk.app {names : List Str} {cs cs' : List (List (Str × Bool))} (h : ClOk names cs) (k : ClOk names cs') : ClOk names (cs ++ cs') := fun c hc => (List.mem_append.mp hc).elim (h c) (k c)
theorem clOk_nil {names : List Str} : ClOk names [[]] := fun c hc => by
  rw [show c = [] by simpa using hc]
  exact ⟨fun l hl => by simp at hl, List.nodup_nil, Nat.zero_le _⟩
theorem inOrd_nil {names : List Str} : InOrd names [[]] := fun c hc => by
  rw [show c = [] by simpa using hc]
  exact List.nil_sublist _
theorem InOrd.app {names : List Str} {cs cs' : List (List (Str × Bool))} (h : InOrd names cs) (k : InOrd names cs') : InOrd names (cs ++ cs') := fun c hc => (List.mem_append.mp hc).elim (h c) (k c)
theorem ClOk.no {names : List Str} : ClOk names [] := fun c hc => by simp at hc
theorem InOrd.no {names : List Str} : InOrd names [] := fun c hc => by simp at hc
/-- near questions of the same marks -/
theorem near_same {ps : List (Str × D)} {cw cg cw' cg' : List (List (Str × Bool))} (g : GoodQ ps cw cg) (hw : ClOk (ps.map Prod.fst) cw') (hg : ClOk (ps.map Prod.fst) cg') (io : InOrd (ps.map Prod.fst) cg') (lw : cw'.length ≤ 50) (lg : cg'.length ≤ 50) : NearOk (ps.map Prod.fst) (ps, cw', cg') :=
  ⟨g.hd, fun x hx => .inl (g.nm x hx), hw, hg, io, Nat.le_trans g.pl (by decide), lw, lg⟩
/-- the found ones: their list at f, the question's parts beside it -/
structure FdN (H0 : Hp) (a f : Addr) (ps : List (Str × D)) (cw cg : List (List (Str × Bool))) (m wv gv : V) (n : Nat) (qs : List Near) (H : Hp) : Prop where
  sm : SameS a H0 H
  nf : H0 f = none
  rp : ∃ vs, H f = some (.lst vs) ∧ Reps (fun b => b ≠ a ∧ b ≠ f) H (qs.map nearD) vs
  ok : ∀ q ∈ qs, NearOk (ps.map Prod.fst) q
  st : Strm H a n
  rm : Rep (fun b => b ≠ a ∧ b ≠ f) H (.lst (ps.map pairD)) m
  rw : Rep (fun b => b ≠ a ∧ b ≠ f) H (clausesD cw) wv
  rg : Rep (fun b => b ≠ a ∧ b ≠ f) H (clausesD cg) gv
  ln : qs.length ≤ 20
section
variable {H0 H H' : Hp} {a f : Addr} {ps : List (Str × D)} {cw cg : List (List (Str × Bool))} {m wv gv : V} {n k : Nat} {qs : List Near}
theorem FdN.same (x : FdN H0 a f ps cw cg m wv gv n qs H) (s : Same H H') : FdN H0 a f ps cw cg m wv gv n qs H' := by
  obtain ⟨vs, h1, h2⟩ := x.rp
  exact ⟨x.sm.trans (SameS.of s), x.nf, ⟨vs, s _ _ h1, h2.same s⟩, x.ok, x.st.same s, x.rm.same s, x.rw.same s, x.rg.same s, x.ln⟩
theorem FdN.na (x : FdN H0 a f ps cw cg m wv gv n qs H) {u : List V} (hu : H0 a = some (.lst u)) : f ≠ a := fun z => by
  have := x.nf
  rw [z, hu] at this
  cases this
theorem FdN.step (x : FdN H0 a f ps cw cg m wv gv n qs H) {u : List V} (hu : H0 a = some (.lst u)) (s : SameS a H H') (t : Strm H' a k) : FdN H0 a f ps cw cg m wv gv k qs H' := by
  obtain ⟨vs, h1, h2⟩ := x.rp
  obtain ⟨u1, hu1⟩ := x.st.lst
  have st : Stay (fun b => b ≠ a ∧ b ≠ f) H H' := s.stay hu1 fun z => z.1 rfl
  exact ⟨x.sm.trans s, x.nf, ⟨vs, s _ _ (x.na hu) h1, Reps.mono (fun _ z => z) st h2⟩, x.ok, t, Rep.mono (fun _ z => z) st x.rm, Rep.mono (fun _ z => z) st x.rw, Rep.mono (fun _ z => z) st x.rg, x.ln⟩
theorem FdN.ap (x : FdN H0 a f ps cw cg m wv gv n qs H) {u : List V} (hu : H0 a = some (.lst u)) {ds : List Near} {vs us : List V} (hv : H f = some (.lst vs)) (r : Reps (fun b => b ≠ a ∧ b ≠ f) H (ds.map nearD) us) (ok : ∀ q ∈ ds, NearOk (ps.map Prod.fst) q) (hl : qs.length + ds.length ≤ 20) :
    FdN H0 a f ps cw cg m wv gv n (qs ++ ds) (upd H f (.lst (vs ++ us))) := by
  obtain ⟨ws, h1, h2⟩ := x.rp
  rw [hv] at h1
  cases h1
  have st : Stay (fun b => b ≠ a ∧ b ≠ f) H (upd H f (.lst (vs ++ us))) := stay_upd hv (nd_lst fun z => z.2 rfl)
  have w : ∀ {d : D} {v : V}, Rep (fun b => b ≠ a ∧ b ≠ f) H d v → Rep (fun b => b ≠ a ∧ b ≠ f) (upd H f (.lst (vs ++ us))) d v := fun r => Rep.mono (fun _ z => z) st r
  refine ⟨x.sm.at x.nf, x.nf, ⟨_, upd_same, ?_⟩, fun q hq => (List.mem_append.mp hq).elim (x.ok q) (ok q), x.st.at (x.na hu), w x.rm, w x.rw, w x.rg, by rw [List.length_append]; exact hl⟩
  rw [List.map_append]
  exact Reps.append (Reps.mono (fun _ z => z) st h2) (Reps.mono (fun _ z => z) st r)
theorem FdN.mono (x : FdN H0 a f ps cw cg m wv gv n qs H) (h : n ≤ k) : FdN H0 a f ps cw cg m wv gv k qs H := ⟨x.sm, x.nf, x.rp, x.ok, x.st.mono h, x.rm, x.rw, x.rg, x.ln⟩
theorem FdN.hS (x : FdN H0 a f ps cw cg m wv gv n qs H) : ∀ p, H p = none → p ≠ a ∧ p ≠ f := fun p hp => by
  obtain ⟨u, hu⟩ := x.st.lst
  obtain ⟨vs, hv, _⟩ := x.rp
  exact ⟨fun z => (by rw [z, hu] at hp; cases hp), fun z => (by rw [z, hv] at hp; cases hp)⟩
theorem FdN.len (x : FdN H0 a f ps cw cg m wv gv n qs H) {vs : List V} (hv : H f = some (.lst vs)) : vs.length ≤ 20 := by
  obtain ⟨ws, h1, h2⟩ := x.rp
  rw [hv] at h1
  cases h1
  rw [h2.length, List.length_map]
  exact x.ln
end
theorem near_append {K : PySem.W.Frag} {H0 H : Hp} {a f : Addr} {ps : List (Str × D)} {cw cg : List (List (Str × Bool))} {m wv gv : V} {n i : Nat} {qs : List Near} {q : Near} {te : TE} {σ : L2.St} {D : Ends} {u : List V} (hσ : σ[i]? = some (some (.ref f))) (x : FdN H0 a f ps cw cg m wv gv n qs H) (hu : H0 a = some (.lst u))
    (mk : MkE (fun b => b ≠ a ∧ b ≠ f) te σ H (nearD q)) (ok : NearOk (ps.map Prod.fst) q) (hl : qs.length + 1 ≤ 20) (k : ∀ H', FdN H0 a f ps cw cg m wv gv n (qs ++ [q]) H' → D.nx σ H') : tDrop (tBM K "list" rAppend (tVar i) (tCons te tNil)) D σ H := by
  obtain ⟨vs, hv, _⟩ := id x.rp
  refine ⟨_, hσ, .inl ⟨rfl, _, SqL.of hv⟩, mk H _ (Same.refl _) fun H2 v s r => ?_⟩
  have x2 := x.same s
  have hv2 := s _ _ hv
  exact ⟨f, vs, v, rfl, rfl, hv2, Nat.lt_of_le_of_lt (x2.len hv2) (by decide), k _ (x2.ap hu hv2 (ds := [q]) (Reps.one r) (fun q2 h2 => by rw [show q2 = q by simpa using h2]; exact ok) hl)⟩
theorem near_extendS {K : PySem.W.Frag} {H0 H : Hp} {a f : Addr} {ps : List (Str × D)} {cw cg : List (List (Str × Bool))} {m wv gv : V} {n i : Nat} {qs ds : List Near} {te : TE} {σ : L2.St} {D : Ends} {u : List V} {t2 : TS} (hσ : σ[i]? = some (some (.ref f))) (x : FdN H0 a f ps cw cg m wv gv n qs H) (hu : H0 a = some (.lst u))
    (mk : MkE (fun b => b ≠ a ∧ b ≠ f) te σ H (.lst (ds.map nearD))) (ok : ∀ q ∈ ds, NearOk (ps.map Prod.fst) q) (hl : qs.length + ds.length ≤ 20) (k : ∀ H', FdN H0 a f ps cw cg m wv gv n (qs ++ ds) H' → t2 D σ H') : tSeq (tDrop (tBM K "list" rExtend (tVar i) (tCons te tNil))) t2 D σ H := by
  obtain ⟨vs, hv, _⟩ := id x.rp
  refine ⟨_, hσ, .inl ⟨rfl, _, SqL.of hv⟩, mk H _ (Same.refl _) fun H2 v s r => ?_⟩
  obtain ⟨b, us, rfl, _, hb, ru⟩ := r
  have x2 := x.same s
  have hv2 := s _ _ hv
  have h1 := x2.len hv2
  have h2 := ru.length
  rw [List.length_map] at h2
  exact ⟨f, b, vs, us, rfl, rfl, hv2, hb, Nat.le_trans (show vs.length + us.length ≤ 40 by omega) (by decide), k _ (x2.ap hu hv2 ru ok hl)⟩
theorem near_appendS {K : PySem.W.Frag} {H0 H : Hp} {a f : Addr} {ps : List (Str × D)} {cw cg : List (List (Str × Bool))} {m wv gv : V} {n i : Nat} {qs : List Near} {q : Near} {te : TE} {σ : L2.St} {D : Ends} {u : List V} {t2 : TS} (hσ : σ[i]? = some (some (.ref f))) (x : FdN H0 a f ps cw cg m wv gv n qs H) (hu : H0 a = some (.lst u))
    (mk : MkE (fun b => b ≠ a ∧ b ≠ f) te σ H (nearD q)) (ok : NearOk (ps.map Prod.fst) q) (hl : qs.length + 1 ≤ 20) (k : ∀ H', FdN H0 a f ps cw cg m wv gv n (qs ++ [q]) H' → t2 D σ H') : tSeq (tDrop (tBM K "list" rAppend (tVar i) (tCons te tNil))) t2 D σ H :=
  near_append (D := { D with nx := t2 D }) hσ x hu mk ok hl k
end Q1

set_option Elab.async false
set_option maxRecDepth 100000
set_option maxHeartbeats 4000000
namespace Q1
open PySem L2 LamX PyProof.Rows
def hands5 : List D := [.str "we", .str "they", .tup [.int 1, .int 2], .tup [.int 2, .int 4], .tup [.int 1, .int 3]]
theorem hands5_in : ∀ h ∈ hands5, h ∈ qHands := fun h hh => by
  simp only [hands5, List.mem_cons, List.not_mem_nil, or_false] at hh
  rcases hh with rfl | rfl | rfl | rfl | rfl <;> simp [qHands]
theorem hands5_left : ∀ d ∈ qHands, 0 < (hands5.filter fun h => !h.eq d).length := by decide +kernel
theorem map_fst_set {ps : List (Str × D)} {i : Nat} {p : Str × D} {d : D} (h : ps[i]? = some p) : (ps.take i ++ [(p.1, d)] ++ ps.drop (i + 1)).map Prod.fst = ps.map Prod.fst := by
  obtain ⟨hl, hp⟩ := List.getElem?_eq_some_iff.mp h
  have e : ps = ps.take i ++ p :: ps.drop (i + 1) := by
    rw [← hp, ← List.drop_eq_getElem_cons hl, List.take_append_drop]
  conv => rhs; rw [e]
  simp
theorem clD_app (x y : List (List (Str × Bool))) : D.lst (x.map litsD ++ y.map litsD) = clausesD (x ++ y) := by unfold clausesD; rw [List.map_append]
theorem clD_drop (x : List (List (Str × Bool))) (k : Nat) : D.lst ((x.map litsD).drop k) = clausesD (x.drop k) := by unfold clausesD; rw [List.map_drop]
theorem clD_take (x : List (List (Str × Bool))) (k : Nat) : D.lst ((x.map litsD).take k) = clausesD (x.take k) := by unfold clausesD; rw [List.map_take]
theorem clD_rev (x : List (List (Str × Bool))) : D.lst ((x.map litsD).reverse) = clausesD x.reverse := by unfold clausesD; rw [List.map_reverse]
theorem near_n1 {ps : List (Str × D)} {cw cg : List (List (Str × Bool))} (g : GoodQ ps cw cg) (hw : ClOk (ps.map Prod.fst) cw) (hg : ClOk (ps.map Prod.fst) cg) : NearOk (ps.map Prod.fst) (ps ++ [(("n1" : Str), D.str "we")], cw, cg) := by
  have := g.lw
  have := g.lg
  have := g.pl
  have sub : ∀ x ∈ ps.map Prod.fst, x ∈ (ps ++ [(("n1" : Str), D.str "we")]).map Prod.fst := fun x hx => by
    rw [List.map_append]
    exact List.mem_append_left _ hx
  refine ⟨fun p hp => ?_, fun x hx => ?_, hw.mono sub, hg.mono sub, g.g, ?_, ?_, ?_⟩
  · rcases List.mem_append.mp hp with hp | hp
    · exact g.hd p hp
    · rw [show p = (("n1" : Str), D.str "we") by simpa using hp]
      simp [qHands]
  · rw [List.map_append] at hx
    rcases List.mem_append.mp hx with hx | hx
    · exact .inl (g.nm x hx)
    · exact .inr (by simpa using hx)
  · show (ps ++ _).length ≤ 14
    rw [List.length_append]
    simp only [List.length_cons, List.length_nil]
    omega
  · show cw.length ≤ 50
    omega
  · show cg.length ≤ 50
    omega
theorem near_rev {ps : List (Str × D)} {cw cg : List (List (Str × Bool))} (g : GoodQ ps cw cg) : NearOk (ps.map Prod.fst) (ps.reverse, [], []) := by
  have := g.pl
  refine ⟨fun p hp => g.hd p (List.mem_reverse.mp hp), fun x hx => .inl (g.nm x ?_), ClOk.no, ClOk.no, InOrd.no, ?_, Nat.zero_le _, Nat.zero_le _⟩
  · have hx : x ∈ ps.reverse.map Prod.fst := hx
    rw [List.map_reverse] at hx
    exact List.mem_reverse.mp hx
  · show ps.reverse.length ≤ 14
    rw [List.length_reverse]
    omega
theorem near_set {ps : List (Str × D)} {cw cg : List (List (Str × Bool))} {i : Nat} {p : Str × D} {d : D} (g : GoodQ ps cw cg) (hw : ClOk (ps.map Prod.fst) cw) (hg : ClOk (ps.map Prod.fst) cg) (hp : ps[i]? = some p) (hd : d ∈ qHands) : NearOk (ps.map Prod.fst) (ps.take i ++ [(p.1, d)] ++ ps.drop (i + 1), cw, cg) := by
  have := g.lw
  have := g.lg
  have := g.pl
  have e := map_fst_set (d := d) hp
  refine ⟨fun q hq => ?_, fun x hx => .inl (g.nm x ?_), ?_, ?_, g.g, ?_, ?_, ?_⟩
  · rcases List.mem_append.mp hq with hq | hq
    · rcases List.mem_append.mp hq with hq | hq
      · exact g.hd q (List.mem_of_mem_take hq)
      · rw [show q = (p.1, d) by simpa using hq]
        exact hd
    · exact g.hd q (List.mem_of_mem_drop hq)
  · have hx : x ∈ (ps.take i ++ [(p.1, d)] ++ ps.drop (i + 1)).map Prod.fst := hx
    rw [e] at hx
    exact hx
  · show ClOk ((ps.take i ++ [(p.1, d)] ++ ps.drop (i + 1)).map Prod.fst) cw
    rw [e]
    exact hw
  · show ClOk ((ps.take i ++ [(p.1, d)] ++ ps.drop (i + 1)).map Prod.fst) cg
    rw [e]
    exact hg
  · show (ps.take i ++ [(p.1, d)] ++ ps.drop (i + 1)).length ≤ 14
    have := congrArg List.length e
    rw [List.length_map, List.length_map] at this
    omega
  · show cw.length ≤ 50
    omega
  · show cg.length ≤ 50
    omega
section
variable {P : Program} {w : World} {K : PySem.W.Frag} {mg : Str → Option Value} {base : Heap}
/-! ### _law_near -/
abbrev sNear : Stmt := top 46
abbrev nNear : List Str := ["stream", "question", "marks", "wishes", "guards", "found", "at", "some", "other", "hand"]
theorem scNear : FnScope nNear ["stream", "question"] (defScope sNear) := ⟨rfl, rfl, rfl, by decide +kernel, rfl, by decide +kernel, by decide +kernel⟩
def spNear : Sp := fun vs H Q _ => ∃ (S : Addr → Prop) (s r : Addr) (n : Nat) (ps : List (Str × D)) (cw cg : List (List (Str × Bool))), vs = [.ref s, .ref r] ∧ Strm H s n ∧ n + 2 < LIM ∧ Rep S H (qD ps cw cg) (.ref r) ∧ ¬ S s ∧ GoodQ ps cw cg ∧
  ∀ (H' : Hp) (x : Addr) (qs : List Near), SameS s H H' → Strm H' s (n + 2) → Rep (fun _ => True) H' (.lst (qs.map nearD)) (.ref x) → (∀ q ∈ qs, NearOk (ps.map Prod.fst) q) → qs.length ≤ 20 → Q (.ref x) H'
theorem ok_near (B : Bt mg) (N : Dn K mg "_law_near" sNear ["stream", "question"]) (NP : Dn K mg "_law_pick" sPick ["stream", "some"]) (ND : Dn K mg "_law_draw" sDraw ["stream", "many"]) : FnOk P w K mg base CX0 3 N.f N.fd ["stream", "question"] spNear := by
  have GP : FnOk P w K mg base CX0 2 NP.f NP.fd ["stream", "some"] spPick := ok_pick B NP ND
  have GD : FnOk P w K mg base CX0 1 ND.f ND.fd ["stream", "many"] spDraw := ok_draw B ND
  refine N.F.ok scNear (fun vs H Q E h => ?_) (fun cdv A outer s H vs Q E hr h => ?_)
  · obtain ⟨S, s, r, n, ps, cw, cg, rfl, _⟩ := h
    rfl
  · obtain ⟨S, a, r, n, ps, cw, cg, rfl, hs, hn, hq, hS, g, k⟩ := h
    refine ⟨_, pss_cons (ps_asg (pv 1) (pg_tup rfl (pgs_cons (pg_name (i := 2) scNear.nd rfl (Or.inr rfl)) (pgs_cons (pg_name (i := 3) scNear.nd rfl (Or.inl rfl)) (pgs_cons (pg_name (i := 4) scNear.nd rfl (Or.inl rfl)) pgs_nil)))))
      (pss_cons (ps_set (i := 5) scNear.nd rfl (Or.inl rfl) (pe_lst (pa_cons (pe_tup (pa_cons (pv 2) (pa_cons (pv 4) (pa_cons (pv 3) pa_nil))))
        (pa_cons (pe_tup (pa_cons (pv 2) (pa_cons (pe_op op_cat (pv 3) (pe_lst (pa_cons (pe_lst pa_nil) pa_nil))) (pa_cons (pv 4) pa_nil))))
        (pa_cons (pe_tup (pa_cons (pv 2) (pa_cons (pe_slice sl_list (pv 3) (po_some pe_int) po_none) (pa_cons (pv 4) pa_nil)))) pa_nil)))))
      (pss_cons (ps_expr (pe_bm PySem.F.plainAttrs_list PySem.F.slot_list_extend PySem.F.type_list_extend mt_extend (pv 5) (pa_cons
        (pe_lst (pa_cons (pe_tup (pa_cons (pe_revL (pv 2)) (pa_cons (pe_lst pa_nil) (pa_cons (pe_lst pa_nil) pa_nil))))
          (pa_cons (pe_tup (pa_cons (pv 2) (pa_cons (pe_revL (pv 3)) (pa_cons (pv 4) pa_nil))))
          (pa_cons (pe_tup (pa_cons (pv 2) (pa_cons (pe_op op_cat (pv 3) (pe_slice sl_list (pv 3) po_none (po_some pe_int))) (pa_cons (pv 4) pa_nil)))) pa_nil)))) pa_nil)))
      (pss_cons (ps_expr (pe_bm PySem.F.plainAttrs_list PySem.F.slot_list_append PySem.F.type_list_append mt_append (pv 5) (pa_cons
        (pe_tup (pa_cons (pv 2) (pa_cons (pv 3) (pa_cons (pe_op op_cat (pv 4) (pe_lst (pa_cons (pe_lst pa_nil) pa_nil))) pa_nil)))) pa_nil)))
      (pss_cons (ps_expr (pe_bm PySem.F.plainAttrs_list PySem.F.slot_list_append PySem.F.type_list_append mt_append (pv 5) (pa_cons
        (pe_tup (pa_cons (pe_op op_cat (pv 2) (pe_lst (pa_cons (pe_tup (pa_cons pe_str (pa_cons pe_str pa_nil))) pa_nil))) (pa_cons (pv 3) (pa_cons (pv 4) pa_nil)))) pa_nil)))
      (pss_cons (ps_if (pt_cmpR (op_neD hr.units) (pv 2) (pe_lst pa_nil) (nomark _))
        (pss_cons (ps_set (i := 6) scNear.nd rfl (Or.inr rfl) (pe_call GD (hr.mono (by decide)) (by rfl) ND.g ND.F.kp ND.b .nil pass0 (pa_cons (pv 0) (pa_cons (pe_callB call_len_seq (by rfl) B.len boot_len (pa_cons (pv 2) pa_nil)) pa_nil))))
        (pss_cons (ps_setLc (i := 7) (own := [("hand", 9)]) (g := gName 9) (tt := tTest (tOp (rNeD K) (tVar 9) (tOp (rIxT K) (tOp (rIxL K) (tVar 2) (tVar 6)) (tC (.int 1))))) (te := tVar 9) (by rfl) scNear.nd rfl rfl (sw_true rfl rfl rfl (by decide +kernel))
            (pi_tup (pe_tup (pa_cons pe_str (pa_cons pe_str (pa_cons (pe_tup (pa_cons pe_int (pa_cons pe_int pa_nil))) (pa_cons (pe_tup (pa_cons pe_int (pa_cons pe_int pa_nil))) (pa_cons (pe_tup (pa_cons pe_int (pa_cons pe_int pa_nil))) pa_nil))))))) (blkOk_by (own := [("hand", 9)]) (N := nNear) (sc := defScope sNear) (by decide +kernel)) (fun _ _ _ _ _ => pg_name (i := 9) scNear.nd rfl (Or.inl rfl))
            (fun _ _ _ _ _ => pts_one (pt_cmpR (op_neD hr.units) (pv 9) (pe_ix ix_tup (pe_ix ix_list (pv 2) (pv 6) (fun _ _ => rfl)) pe_int (fun _ _ => rfl)) (nomark _))) (fun _ _ _ _ _ => pv 9))
        (pss_cons (ps_set (i := 8) scNear.nd rfl (Or.inl rfl) (pe_tup (pa_cons (pe_ix ix_tup (pe_ix ix_list (pv 2) (pv 6) (fun _ _ => rfl)) pe_int (fun _ _ => rfl)) (pa_cons (pe_call GP (hr.mono (by decide)) (by rfl) NP.g NP.F.kp NP.b .nil pass0 (pa_cons (pv 0) (pa_cons (pv 7) pa_nil))) pa_nil))))
        (pss_one (ps_expr (pe_bm PySem.F.plainAttrs_list PySem.F.slot_list_append PySem.F.type_list_append mt_append (pv 5) (pa_cons
          (pe_tup (pa_cons (pe_op op_cat (pe_op op_cat (pe_slice sl_list (pv 2) po_none (po_some (pv 6))) (pe_lst (pa_cons (pv 8) pa_nil))) (pe_slice sl_list (pv 2) (po_some (pe_op op_add (pv 6) pe_int)) po_none)) (pa_cons (pv 3) (pa_cons (pv 4) pa_nil)))) pa_nil))))))) pss_nil)
      (pss_cons (ps_if (PW.pt (pw_and (pt_cmpR (op_neD hr.units) (pv 3) (pe_lst pa_nil) (nomark _)) (pw_and1 (pt_cmpR (op_neD hr.units) (pe_ix ix_list (pv 3) pe_int (fun _ _ => rfl)) (pe_lst pa_nil) (nomark _)))))
        (pss_cons (ps_expr (pe_bm PySem.F.plainAttrs_list PySem.F.slot_list_append PySem.F.type_list_append mt_append (pv 5) (pa_cons
          (pe_tup (pa_cons (pv 2) (pa_cons (pe_op op_cat (pe_lst (pa_cons (pe_op op_cat
              (pe_lst (pa_cons (pe_tup (pa_cons (pe_ix ix_tup (pe_ix ix_list (pe_ix ix_list (pv 3) pe_int (fun _ _ => rfl)) pe_int (fun _ _ => rfl)) pe_int (fun _ _ => rfl)) (pa_cons (pe_not (pe_ix ix_tup (pe_ix ix_list (pe_ix ix_list (pv 3) pe_int (fun _ _ => rfl)) pe_int (fun _ _ => rfl)) pe_int (fun _ _ => rfl))) pa_nil))) pa_nil))
              (pe_slice sl_list (pe_ix ix_list (pv 3) pe_int (fun _ _ => rfl)) (po_some pe_int) po_none)) pa_nil)) (pe_slice sl_list (pv 3) (po_some pe_int) po_none)) (pa_cons (pv 4) pa_nil)))) pa_nil)))
        (pss_one (ps_expr (pe_bm PySem.F.plainAttrs_list PySem.F.slot_list_append PySem.F.type_list_append mt_append (pv 5) (pa_cons
          (pe_tup (pa_cons (pv 2) (pa_cons (pe_op op_cat (pe_lst (pa_cons (pe_slice sl_list (pe_ix ix_list (pv 3) pe_int (fun _ _ => rfl)) (po_some pe_int) po_none) pa_nil)) (pe_slice sl_list (pv 3) (po_some pe_int) po_none)) (pa_cons (pv 4) pa_nil)))) pa_nil))))) pss_nil)
      (pss_one (ps_ret (pv 5))))))))), ?_⟩
    obtain ⟨_, _, er, hr0, m, _, rfl, rm, wv, _, rfl, rw1, gv, _, rfl, rg1, rfl⟩ := id hq
    cases er
    obtain ⟨u0, hu0⟩ := hs.lst
    have toA : ∀ {d : D} {v : V}, Rep S H d v → Rep (fun b => b ≠ a) H d v := fun r => Rep.mono (fun b sb => fun (z : b = a) => hS (z ▸ sb)) (fun _ _ e _ => e) r
    have hSa : ∀ p, H p = none → p ≠ a := fun p hp z => by rw [z, hu0] at hp; cases hp
    have hnl : (ps.map Prod.fst).length ≤ 13 := by rw [List.length_map]; exact g.pl
    have cW := clOk_of g.w g.nd hnl
    have cG := clOk_of g.g g.nd hnl
    have glw := g.lw
    have glg := g.lg
    have gpl := g.pl
    refine ⟨_, rfl, r, _, rfl, SqT.of hr0, rfl, ?_⟩
    refine ⟨_, _, rfl, _, _, rfl, _, _, rfl, rfl, ?_⟩
    have rma := toA rm
    have rwa := toA rw1
    have rga := toA rg1
    refine tSeq_two (R := fun σ H' => σ = [some (.ref a), some (.ref r), some m, some wv, some gv, none, none, none, none, none] ∧ H = H') (fun D' hD => hD _ _ ⟨rfl, rfl⟩) ?_
    rintro _ _ ⟨rfl, rfl⟩
    refine run_setL (S := fun b => b ≠ a) (ds := ([(ps, cg, cw), (ps, cw ++ [[]], cg), (ps, cw.drop 1, cg)] : List Near).map nearD) ?_ rfl (fun H1 fs s1 rfs f hf => ?_)
    · exact mkA_cons (mk_tup (mkA_cons (mk_var rfl rma) (mkA_cons (mk_var rfl rga) (mkA_cons (mk_var rfl rwa) mkA_nil))))
        (mkA_cons (mk_tup (mkA_cons (mk_var rfl rma) (mkA_cons (mk_eq (mk_cat hSa (mk_var rfl rwa) (mk_lst hSa (mkA_cons (mk_lst hSa mkA_nil) mkA_nil)) (by simp only [List.length_map, List.length_cons, List.length_nil]; omega)) (clD_app cw [[]])) (mkA_cons (mk_var rfl rga) mkA_nil))))
        (mkA_cons (mk_tup (mkA_cons (mk_var rfl rma) (mkA_cons (mk_eq (mk_from (k := 1) hSa (mk_var rfl rwa) mk_int) (clD_drop cw 1)) (mkA_cons (mk_var rfl rga) mkA_nil)))) mkA_nil))
    have nfH : H f = none := none_back s1 hf
    have nfa : f ≠ a := hSa f nfH
    have s2 : Same H1 (upd H1 f (.lst fs)) := Same.new hf
    have hf2 : upd H1 f (.lst fs) f = some (.lst fs) := upd_same
    have toF : ∀ {d : D} {v : V}, Rep (fun b => b ≠ a) H1 d v → Rep (fun b => b ≠ a ∧ b ≠ f) (upd H1 f (.lst fs)) d v := fun r => Rep.mono (fun b z => ⟨z.1, fun q => z.2 (q ▸ hf)⟩) (stay_of s2) r.here
    have x0 : FdN H a f ps cw cg m wv gv n [(ps, cg, cw), (ps, cw ++ [[]], cg), (ps, cw.drop 1, cg)] (upd H1 f (.lst fs)) := by
      refine ⟨SameS.of (s1.trans s2), nfH, ⟨fs, hf2, Reps.mono (fun b z => ⟨z.1, fun q => z.2 (q ▸ hf)⟩) (stay_of s2) rfs.here⟩, fun q hq => ?_, hs.same (s1.trans s2), toF (rma.same s1), toF (rwa.same s1), toF (rga.same s1), by show 3 ≤ 20; decide⟩
      simp only [List.mem_cons, List.not_mem_nil, or_false] at hq
      rcases hq with rfl | rfl | rfl
      · exact near_same g cG cW g.w (by omega) (by omega)
      · exact near_same g (cW.app clOk_nil) cG g.g (by rw [List.length_append]; simp only [List.length_cons, List.length_nil]; omega) (by omega)
      · exact near_same g (cW.sub fun c hc => List.mem_of_mem_drop hc) cG g.g (by rw [List.length_drop]; omega) (by omega)
    generalize upd H1 f (.lst fs) = H2 at x0 s2 hf2 ⊢
    have hS2 := x0.hS
    refine near_extendS (i := 5) rfl x0 hu0 (ds := [(ps.reverse, [], []), (ps, cw.reverse, cg), (ps, cw ++ cw.take 1, cg)]) ?_ (fun q hq => ?_) (by show 3 + 3 ≤ 20; decide) fun H4 x4 => ?_
    · exact mk_lst hS2 (mkA_cons (mk_tup (mkA_cons (mk_eq (mk_rev hS2 (mk_var rfl x0.rm)) (by rw [← List.map_reverse])) (mkA_cons (mk_lst hS2 mkA_nil) (mkA_cons (mk_lst hS2 mkA_nil) mkA_nil))))
        (mkA_cons (mk_tup (mkA_cons (mk_var rfl x0.rm) (mkA_cons (mk_eq (mk_rev hS2 (mk_var rfl x0.rw)) (clD_rev cw)) (mkA_cons (mk_var rfl x0.rg) mkA_nil))))
        (mkA_cons (mk_tup (mkA_cons (mk_var rfl x0.rm) (mkA_cons (mk_eq (mk_cat hS2 (mk_var rfl x0.rw) (mk_to (k := 1) hS2 (mk_var rfl x0.rw) mk_int) (by simp only [List.length_map, List.length_take]; omega)) (by rw [← List.map_take]; exact clD_app cw (cw.take 1))) (mkA_cons (mk_var rfl x0.rg) mkA_nil)))) mkA_nil)))
    · simp only [List.mem_cons, List.not_mem_nil, or_false] at hq
      rcases hq with rfl | rfl | rfl
      · exact near_rev g
      · exact near_same g (cW.sub fun c hc => List.mem_reverse.mp hc) cG g.g (by rw [List.length_reverse]; omega) (by omega)
      · exact near_same g (cW.app (cW.sub fun c hc => List.mem_of_mem_take hc)) cG g.g (by rw [List.length_append, List.length_take]; omega) (by omega)
    obtain ⟨qs4, x4, lq4⟩ : ∃ qs : List Near, FdN H a f ps cw cg m wv gv n qs H4 ∧ qs.length = 6 := ⟨_, x4, rfl⟩
    have hS4 := x4.hS
    refine near_appendS (i := 5) rfl x4 hu0 (q := (ps, cw, cg ++ [[]])) ?_ (near_same g cW (cG.app clOk_nil) (g.g.app inOrd_nil) (by omega) (by rw [List.length_append]; simp only [List.length_cons, List.length_nil]; omega)) (by omega) fun H5 x5 => ?_
    · exact mk_tup (mkA_cons (mk_var rfl x4.rm) (mkA_cons (mk_var rfl x4.rw) (mkA_cons (mk_eq (mk_cat hS4 (mk_var rfl x4.rg) (mk_lst hS4 (mkA_cons (mk_lst hS4 mkA_nil) mkA_nil)) (by simp only [List.length_map, List.length_cons, List.length_nil]; omega)) (clD_app cg [[]])) mkA_nil)))
    have hS5 := x5.hS
    refine near_appendS (i := 5) rfl x5 hu0 (q := (ps ++ [(("n1" : Str), D.str "we")], cw, cg)) ?_ (near_n1 g cW cG) (by rw [List.length_append]; simp only [List.length_cons, List.length_nil]; omega) fun H6 x6 => ?_
    · exact mk_tup (mkA_cons (mk_eq (mk_cat hS5 (mk_var rfl x5.rm) (mk_lst hS5 (mkA_cons (mk_tup (mkA_cons mk_str (mkA_cons mk_str mkA_nil))) mkA_nil)) (by simp only [List.length_map, List.length_cons, List.length_nil]; omega)) (by rw [List.map_append]; rfl)) (mkA_cons (mk_var rfl x5.rw) (mkA_cons (mk_var rfl x5.rg) mkA_nil)))
    obtain ⟨qs6, hqs6, lq6⟩ : ∃ qs : List Near, FdN H a f ps cw cg m wv gv n qs H6 ∧ qs.length = 8 := ⟨_, x6, by simp only [List.length_append, List.length_cons, List.length_nil]; omega⟩
    clear x6
    have okP : (D.lst (ps.map pairD)).ok 8 := D.ok_le (d := .lst (ps.map pairD)) (n := 3) (pairs_ok g.hd g.nm).1 (by decide)
    have okW : (clausesD cw).ok 8 := D.ok_le (clauses_ok g.w g.nm).1 (by decide)
    have okN : (D.lst []).ok 8 := trivial
    refine tSeq_two (R := fun σ H' => (∃ o6 o7 o8 o9, σ = [some (.ref a), some (.ref r), some m, some wv, some gv, some (.ref f), o6, o7, o8, o9]) ∧ ∃ qs, FdN H a f ps cw cg m wv gv (n + 2) qs H' ∧ qs.length ≤ 9) (fun D' hD => ?_) ?_
    · refine run_ifNe (n := 8) (mk_var rfl hqs6.rm) (mk_lst hqs6.hS mkA_nil) okP okN (by decide) fun H7 s7 => ?_
      have x7 := hqs6.same s7
      rw [eq_nil, List.isEmpty_map]
      by_cases hp0 : ps = []
      · rw [hp0]
        refine iteF ?_
        rw [hp0] at x7
        exact hD _ _ ⟨⟨_, _, _, _, rfl⟩, qs6, by rw [hp0]; exact x7.mono (by omega), by omega⟩
      · have hpe : ps.isEmpty = false := by cases ps with
          | nil => exact absurd rfl hp0
          | cons _ _ => rfl
        have hpl : 0 < ps.length := List.length_pos_iff.mpr hp0
        rw [hpe]
        refine iteT ?_
        obtain ⟨lm, ms, rfl, _, hlm, rms⟩ := id x7.rm
        have hml := rms.length
        rw [List.length_map] at hml
        refine ⟨_, rfl, _, rfl, lm, ms, rfl, .inl (SqL.of hlm), a, n, ms.length, rfl, x7.st, by omega, by omega, by omega, fun u d hd hs8 => ?_⟩
        have x8 := x7.step hu0 (SameS.refl H7).upd hs8
        refine tSeq_two (R := fun σ H' => σ = [some (.ref a), some (.ref r), some (.ref lm), some wv, some gv, some (.ref f), some (.int (d : Nat)), none, none, none] ∧ FdN H a f ps cw cg (.ref lm) wv gv (n + 1) qs6 H') (fun D' hD => hD _ _ ⟨rfl, x8⟩) ?_
        clear x8
        rintro _ H8 ⟨rfl, x8⟩
        have hS8 := x8.hS
        have hdl : d < ps.length := by omega
        have hpd : ps[d]? = some ps[d] := List.getElem?_eq_getElem hdl
        have hpD : (ps.map pairD)[d]? = some (pairD ps[d]) := by rw [List.getElem?_map, hpd]; rfl
        have hq8 := g.hd _ (List.getElem_mem hdl)
        have hhd := (qHands_ok hq8).2.1
        have pD : pairD ps[d] = .tup [.str ps[d].1, handD ps[d].2] := rfl
        refine run_setLcT (S := fun b => b ≠ a ∧ b ≠ f) (d := .tup hands5) ?_ fun H9 v9 s9 r9 => ?_
        · exact mk_tup (mkA_cons mk_str (mkA_cons mk_str (mkA_cons (mk_tup (mkA_cons mk_int (mkA_cons mk_int mkA_nil))) (mkA_cons (mk_tup (mkA_cons mk_int (mkA_cons mk_int mkA_nil))) (mkA_cons (mk_tup (mkA_cons mk_int (mkA_cons mk_int mkA_nil))) mkA_nil)))))
        obtain ⟨p9, us9, rfl, hp9, ru9⟩ := r9
        have x9 := x8.same s9
        have hul := ru9.length
        refine ⟨p9, rfl, ⟨_, SqT.of hp9⟩, fun D0 hD0 => lc_tup (K := K) (a := p9) (xs := us9) (fun j H' => Same H9 H' ∧ ∃ vs, H' D0 = some (.lst vs) ∧ Reps (fun b => (b ≠ a ∧ b ≠ f) ∧ b ≠ D0) H' ((hands5.take j).filter fun h => !h.eq (handD ps[d].2)) vs) ⟨Same.new hD0, [], upd_same, rfl⟩ (fun j H' _ y => SqT.of (y.1 _ _ hp9)) ?_ ?_⟩
        · rintro j x H' hx ⟨sm, vs, hz, rz⟩
          obtain ⟨dx, hdx, rx⟩ := (ru9.here.same sm).get hx
          have hdm := List.mem_of_getElem? hdx
          have x9' := x9.same sm
          refine ⟨rfl, ?_⟩
          refine mk_neD (S := fun b => b ≠ a ∧ b ≠ f) (n := 8) (mk_var rfl (Rep.mono (fun _ z => z.1) (fun _ _ e _ => e) rx)) (mk_ixT (mk_ixL (d := pairD ps[d]) (mk_var rfl x9'.rm) (mk_var (d := .int (d : Nat)) rfl rfl) (at_nat hpD)) mk_int (at_nat (j := 1) (d := handD ps[d].2) rfl)) (qHands_ok (hands5_in _ hdm)).2.2.2 (by rw [hhd]; exact (qHands_ok hq8).2.2.2) (by decide) fun H'' s'' => ?_
          have hz2 := s'' _ _ hz
          have hvl := rz.length
          have hfl := List.length_filter_le (fun h : D => !h.eq (handD ps[d].2)) (hands5.take j)
          have htl : (hands5.take j).length ≤ 5 := by rw [List.length_take]; exact Nat.min_le_right _ _
          rw [List.take_add_one, hdx, List.filter_append]
          cases he : dx.eq (handD ps[d].2) with
          | true =>
            refine iteF ⟨sm.trans s'', vs, hz2, ?_⟩
            simp only [Option.toList, List.filter_cons, he, Bool.not_true, Bool.false_eq_true, if_false, List.filter_nil, List.append_nil]
            exact rz.same s''
          | false =>
            refine iteT ⟨_, rfl, vs, hz2, Nat.lt_of_lt_of_le (show vs.length < 1000 by omega) (by decide), Same.at (sm.trans s'') hD0, _, upd_same, ?_⟩
            simp only [Option.toList, List.filter_cons, he, Bool.not_false, List.filter_nil]
            have st : ∀ o, Stay (fun b => (b ≠ a ∧ b ≠ f) ∧ b ≠ D0) H'' (upd H'' D0 o) := fun o => stay_upd hz2 (nd_lst fun z => z.2 rfl)
            refine Reps.append (Reps.mono (fun _ z => z) (st _) (rz.same s'')) (Reps.one (Rep.mono (fun _ z => z) (st _) (Rep.mono (fun b z => ⟨z.1, fun q => ?_⟩) (stay_of s'') rx)))
            exact z.2 (by rw [q]; exact hD0)
        · rintro H10 ⟨sm, vs, hz, rz⟩
          rw [hul, List.take_length] at rz
          have x10 := x9.same sm
          refine tSeq_two (R := fun σ H' => σ = [some (.ref a), some (.ref r), some (.ref lm), some wv, some gv, some (.ref f), some (.int (d : Nat)), some (.ref D0), none, none] ∧ H10 = H') (fun D' hD => hD _ _ ⟨rfl, rfl⟩) ?_
          rintro _ _ ⟨rfl, rfl⟩
          have nD0a : D0 ≠ a := fun z => by
            obtain ⟨u9, hu9⟩ := x9.st.lst
            rw [z, hu9] at hD0
            cases hD0
          refine run_first (S := fun b => b ≠ a ∧ b ≠ f) (d := .str ps[d].1) ?_ fun H11 v11 s11 r11 => ?_
          · exact mk_ixT (mk_ixL (d := pairD ps[d]) (mk_var rfl x10.rm) (mk_var (d := .int (d : Nat)) rfl rfl) (at_nat hpD)) mk_int (at_nat (j := 0) (d := .str ps[d].1) rfl)
          cases (show v11 = .str _ from r11)
          have x11 := x10.same s11
          have hz11 := s11 _ _ hz
          have rz11 := rz.same s11
          have hvl := rz.length
          have hfl := List.length_filter_le (fun h : D => !h.eq (handD ps[d].2)) hands5
          have h5 : hands5.length = 5 := rfl
          have hpos := hands5_left _ hq8
          rw [hhd] at hvl hfl
          refine ⟨_, rfl, _, rfl, a, D0, n + 1, vs, rfl, x11.st, by omega, hz11, nD0a, by omega, by omega, fun u2 v hv hs12 => ?_⟩
          obtain ⟨dv, hdv, rdv⟩ := rz11.mem hv
          have hdq := hands5_in dv ((List.mem_filter.mp hdv).1)
          have x12 := x11.step hu0 (SameS.refl H11).upd hs12
          have nSa : ¬ (fun b => (b ≠ a ∧ b ≠ f) ∧ b ≠ D0) a := fun z => z.1.1 rfl
          have rdv12 := sameS_rep ((SameS.refl H11).upd (o := .lst u2)) x11.st nSa rdv
          generalize upd H11 a (.lst u2) = H12 at x12 rdv12 ⊢
          refine ⟨by show 2 ≤ sizeLine; decide, fun t ht => ?_⟩
          have s13 : Same H12 (upd H12 t (.tup [.str ps[d].1, v])) := Same.new ht
          have ht13 : upd H12 t (.tup [.str ps[d].1, v]) t = some (.tup [.str ps[d].1, v]) := upd_same
          have x13 := x12.same s13
          have rdv13 := rdv12.same s13
          generalize upd H12 t (.tup [.str ps[d].1, v]) = H13 at x13 rdv13 ht13 ⊢
          have hS13 := x13.hS
          have rt : Rep (fun b => b ≠ a ∧ b ≠ f) H13 (pairD (ps[d].1, dv)) (.ref t) := ⟨t, _, rfl, ht13, _, _, rfl, rfl, v, _, rfl, by
            rw [(qHands_ok hdq).2.1]
            exact Rep.mono (fun _ z => z.1) (fun _ _ e _ => e) rdv13, rfl⟩
          refine near_append (i := 5) rfl x13 hu0 (q := (ps.take d ++ [(ps[d].1, dv)] ++ ps.drop (d + 1), cw, cg)) ?_ (near_set g cW cG hpd hdq) (by omega) fun H14 x14 => hD _ _ ⟨⟨_, _, _, _, rfl⟩, _, x14, by rw [List.length_append]; simp only [List.length_cons, List.length_nil]; omega⟩
          refine mk_tup (mkA_cons (mk_eq (mk_cat hS13 (mk_cat hS13 (mk_to (k := d) hS13 (mk_var rfl x13.rm) (mk_var (d := .int (d : Nat)) rfl rfl)) (mk_lst hS13 (mkA_cons (mk_var rfl rt) mkA_nil)) ?_) (mk_from (k := d + 1) hS13 (mk_var rfl x13.rm) (mk_eq (mk_addI (mk_var (d := .int (d : Nat)) rfl rfl) mk_int) ?_)) ?_) ?_) (mkA_cons (mk_var rfl x13.rw) (mkA_cons (mk_var rfl x13.rg) mkA_nil)))
          · simp only [List.length_take, List.length_map, List.length_cons, List.length_nil]
            omega
          · exact congrArg D.int (by omega)
          · simp only [List.length_append, List.length_take, List.length_drop, List.length_map, List.length_cons, List.length_nil]
            omega
          · rw [List.map_append, List.map_append, List.map_take, List.map_drop]
            rfl
    rintro σ H7 ⟨⟨o6, o7, o8, o9, rfl⟩, qs7, x7, lq7⟩
    refine tSeq_two (R := fun σ H' => (∃ o6 o7 o8 o9, σ = [some (.ref a), some (.ref r), some m, some wv, some gv, some (.ref f), o6, o7, o8, o9]) ∧ ∃ qs, FdN H a f ps cw cg m wv gv (n + 2) qs H' ∧ qs.length ≤ 11) (fun D' hD => ?_) ?_
    · refine run_ifAndNe (n := 8) (mk_var rfl x7.rw) (mk_lst x7.hS mkA_nil) okW okN (by decide) fun H8 s8 => ?_
      have x8 := x7.same s8
      have e1 : (clausesD cw).eq (.lst []) = cw.isEmpty := by
        unfold clausesD
        rw [eq_nil, List.isEmpty_map]
      rw [e1]
      rcases hcw : cw with _ | ⟨c0, rest⟩
      · exact iteF (hD _ _ ⟨⟨_, _, _, _, rfl⟩, qs7, x8, by omega⟩)
      · refine iteT ?_
        have hW0 : (cw.map litsD)[0]? = some (litsD c0) := by rw [hcw]; rfl
        have ok0 : (litsD c0).ok 8 := D.ok_le (n := 2) (lits_ok1 fun l hl => g.nm _ ((g.w c0 (by rw [hcw]; exact List.mem_cons_self)).subset (List.mem_map_of_mem hl))) (by decide)
        refine run_ifNe (n := 8) (mk_ixL (d := litsD c0) (mk_var rfl x8.rw) mk_int (at_nat (j := 0) hW0)) (mk_lst x8.hS mkA_nil) ok0 okN (by decide) fun H9 s9 => ?_
        have x9 := x8.same s9
        have e2 : (litsD c0).eq (.lst []) = c0.isEmpty := by
          unfold litsD
          rw [eq_nil, List.isEmpty_map]
        rw [e2]
        rcases hc0 : c0 with _ | ⟨l, c⟩
        · exact iteF (hD _ _ ⟨⟨_, _, _, _, rfl⟩, qs7, x9, by omega⟩)
        · refine iteT ?_
          have hl0 : (c0.map litD)[0]? = some (litD l) := by rw [hc0]; rfl
          have hlen : c0.length ≤ 13 := (cW c0 (by rw [hcw]; exact List.mem_cons_self)).2.2
          have hcm : ∀ c' ∈ rest, c' ∈ cw := fun c' h => by rw [hcw]; exact List.mem_cons_of_mem _ h
          obtain ⟨k1, k2, k3⟩ := cW c0 (by rw [hcw]; exact List.mem_cons_self)
          rw [hc0] at k1 k2 k3
          have lcw : rest.length + 1 ≤ 22 := by
            have := glw
            rw [hcw] at this
            exact this
          have hS9 := x9.hS
          refine near_appendS (i := 5) rfl x9 hu0 (q := (ps, ((l.1, !l.2) :: c) :: rest, cg)) ?_ (near_same g (fun c' h => ?_) cG g.g (by show rest.length + 1 ≤ 50; omega) (by omega)) (by omega) fun H10 x10 => ?_
          · refine mk_tup (mkA_cons (mk_var rfl x9.rm) (mkA_cons (mk_eq (mk_cat hS9 (mk_lst hS9 (mkA_cons (mk_cat hS9 (mk_lst hS9 (mkA_cons (mk_tup (mkA_cons (mk_ixT (d := .str l.1) (mk_ixL (d := litD l) (mk_ixL (d := litsD c0) (mk_var rfl x9.rw) mk_int (at_nat (j := 0) hW0)) mk_int (at_nat (j := 0) hl0)) mk_int (at_nat (j := 0) rfl))
              (mkA_cons (mk_not (mk_ixT (d := .bl l.2) (mk_ixL (d := litD l) (mk_ixL (d := litsD c0) (mk_var rfl x9.rw) mk_int (at_nat (j := 0) hW0)) mk_int (at_nat (j := 0) hl0)) mk_int (at_nat (j := 1) rfl))) mkA_nil))) mkA_nil)) (mk_from (k := 1) hS9 (mk_ixL (d := litsD c0) (mk_var rfl x9.rw) mk_int (at_nat (j := 0) hW0)) mk_int) ?_) mkA_nil)) (mk_from (k := 1) hS9 (mk_var rfl x9.rw) mk_int) ?_) ?_) (mkA_cons (mk_var rfl x9.rg) mkA_nil)))
            · simp only [List.length_cons, List.length_nil, List.length_drop, List.length_map]
              omega
            · simp only [List.length_cons, List.length_nil, List.length_drop, List.length_map]
              omega
            · rw [hcw, hc0]
              rfl
          · rcases List.mem_cons.mp h with rfl | h
            · exact ⟨fun l2 hl2 => by
                rcases List.mem_cons.mp hl2 with rfl | hl2
                · exact k1 l List.mem_cons_self
                · exact k1 l2 (List.mem_cons_of_mem _ hl2), k2, k3⟩
            · exact cW c' (hcm c' h)
          · have hS10 := x10.hS
            refine near_append (i := 5) rfl x10 hu0 (q := (ps, c :: rest, cg)) ?_ (near_same g (fun c' h => ?_) cG g.g (by show rest.length + 1 ≤ 50; omega) (by omega)) (by rw [List.length_append]; simp only [List.length_cons, List.length_nil]; omega) fun H11 x11 => hD _ _ ⟨⟨_, _, _, _, rfl⟩, _, x11, by rw [List.length_append, List.length_append]; simp only [List.length_cons, List.length_nil]; omega⟩
            · refine mk_tup (mkA_cons (mk_var rfl x10.rm) (mkA_cons (mk_eq (mk_cat hS10 (mk_lst hS10 (mkA_cons (mk_from (k := 1) hS10 (mk_ixL (d := litsD c0) (mk_var rfl x10.rw) mk_int (at_nat (j := 0) hW0)) mk_int) mkA_nil)) (mk_from (k := 1) hS10 (mk_var rfl x10.rw) mk_int) ?_) ?_) (mkA_cons (mk_var rfl x10.rg) mkA_nil)))
              · simp only [List.length_cons, List.length_nil, List.length_drop, List.length_map]
                omega
              · rw [hcw, hc0]
                rfl
            · rcases List.mem_cons.mp h with rfl | h
              · exact ⟨fun l2 hl2 => k1 l2 (List.mem_cons_of_mem _ hl2), (List.nodup_cons.mp k2).2, Nat.le_of_succ_le k3⟩
              · exact cW c' (hcm c' h)
    rintro σ H8 ⟨⟨o6, o7, o8, o9, rfl⟩, qs8, x8, lq8⟩
    obtain ⟨vs8, hv8, rv8⟩ := x8.rp
    exact ⟨_, rfl, k H8 f qs8 x8.sm x8.st ⟨f, vs8, rfl, trivial, hv8, Reps.mono (fun _ _ => trivial) (fun _ _ e _ => e) rv8⟩ x8.ok (by omega)⟩
end
end Q1

set_option Elab.async false
set_option maxRecDepth 100000
set_option maxHeartbeats 4000000
namespace Q1
open PySem L2 LamX PyProof.Rows
theorem D.eq_comm (d e : D) : d.eq e = e.eq d := PySem.W.eqv_comm _ _
theorem eq_lst {xs ys : List D} : (D.lst xs).eq (.lst ys) = PyData.eqvAll (pys xs) (pys ys) := rfl
theorem eq_pairs : ∀ ps qs : List (Str × D), (D.lst (ps.map pairD)).eq (.lst (qs.map pairD)) = ((namesD ps).eq (namesD qs) && (handsD ps).eq (handsD qs))
  | [], [] => rfl
  | [], _ :: _ => rfl
  | _ :: _, [] => rfl
  | p :: ps, q :: qs => by
    have ih := eq_pairs ps qs
    have e1 : (D.lst ((p :: ps).map pairD)).eq (.lst ((q :: qs).map pairD)) = ((PyData.eqv (.str p.1) (.str q.1) && (PyData.eqv (handD p.2).py (handD q.2).py && true)) && (D.lst (ps.map pairD)).eq (.lst (qs.map pairD))) := rfl
    have e2 : (namesD (p :: ps)).eq (namesD (q :: qs)) = (PyData.eqv (.str p.1) (.str q.1) && (namesD ps).eq (namesD qs)) := rfl
    have e3 : (handsD (p :: ps)).eq (handsD (q :: qs)) = (PyData.eqv (handD p.2).py (handD q.2).py && (handsD ps).eq (handsD qs)) := rfl
    rw [e1, e2, e3, ih]
    cases PyData.eqv (.str p.1) (.str q.1) <;> cases PyData.eqv (handD p.2).py (handD q.2).py <;> cases (namesD ps).eq (namesD qs) <;> cases (handsD ps).eq (handsD qs) <;> rfl
theorem names_of_eq : ∀ ps qs : List (Str × D), (namesD ps).eq (namesD qs) = true → ps.map Prod.fst = qs.map Prod.fst
  | [], [], _ => rfl
  | [], _ :: _, h => by cases h
  | _ :: _, [], h => by cases h
  | p :: ps, q :: qs, h => by
    have e2 : (namesD (p :: ps)).eq (namesD (q :: qs)) = ((p.1 == q.1) && (namesD ps).eq (namesD qs)) := rfl
    rw [e2, Bool.and_eq_true] at h
    rw [List.map_cons, List.map_cons, names_of_eq ps qs h.2, beq_iff_eq.mp h.1]
theorem sort_same {names : List Str} (nd : names.Nodup) {cs : List (List (Str × Bool))} (h : InOrd names cs) : cs.map (sortLits names) = cs :=
  (List.map_congr_left (g := id) fun c hc => sort_back nd (h c hc) (List.Perm.refl _)).trans (List.map_id _)
/-- what the law says is due -/
def dueB (q : Near) (ps : List (Str × D)) (cw cg : List (List (Str × Bool))) : Bool := (nearD (q.1, q.2.1.map (sortLits (q.1.map Prod.fst)), q.2.2)).eq (qD ps cw cg)
theorem due_eq {ps : List (Str × D)} {cw cg : List (List (Str × Bool))} {q : Near} (g : GoodQ ps cw cg) (ok : NearOk (ps.map Prod.fst) q) :
    eqQ q.1 ps (q.2.1.map (sortLits (q.1.map Prod.fst))) cw (q.2.2.map (sortLits (q.1.map Prod.fst))) cg = dueB q ps cw cg := by
  have e : dueB q ps cw cg = ((D.lst (q.1.map pairD)).eq (.lst (ps.map pairD)) && ((clausesD (q.2.1.map (sortLits (q.1.map Prod.fst)))).eq (clausesD cw) && ((clausesD q.2.2).eq (clausesD cg) && true))) := rfl
  rw [e, eq_pairs]
  unfold eqQ
  cases hn : (namesD q.1).eq (namesD ps) with
  | false => rfl
  | true =>
    have hnm := names_of_eq q.1 ps hn
    have hs : q.2.2.map (sortLits (q.1.map Prod.fst)) = q.2.2 := by
      rw [hnm]
      exact sort_same g.nd ok.io
    rw [hs]
    cases (handsD q.1).eq (handsD ps) <;> cases (clausesD (q.2.1.map (sortLits (q.1.map Prod.fst)))).eq (clausesD cw) <;> cases (clausesD q.2.2).eq (clausesD cg) <;> rfl
theorem eqQ_comm (ps ps2 : List (Str × D)) (cw cw2 cg cg2 : List (List (Str × Bool))) : eqQ ps ps2 cw cw2 cg cg2 = eqQ ps2 ps cw2 cw cg2 cg := by
  unfold eqQ
  rw [D.eq_comm (namesD ps), D.eq_comm (handsD ps), D.eq_comm (clausesD cw), D.eq_comm (clausesD cg)]
theorem n1_name : isNameS "n1" = true := by decide +kernel
theorem near_name {names : List Str} {q : Near} (ok : NearOk names q) : ∀ x ∈ q.1.map Prod.fst, isNameS x = true := fun x hx => by
  rcases ok.nm x hx with h | h
  · exact qNames_name x h
  · rw [h]; exact n1_name
theorem near_strOk {names : List Str} {q : Near} (ok : NearOk names q) : ∀ x ∈ q.1.map Prod.fst, PyData.strOk x = true := fun x hx => by
  rcases ok.nm x hx with h | h
  · exact qNames_ok x h
  · rw [h]; decide +kernel
theorem fold_marks : ∀ {ps : List (Str × D)} {acc : List Str}, (∀ p ∈ ps, p.2 ∈ qHands) → (∀ x ∈ ps.map Prod.fst, isNameS x = true) → (acc ++ ps.map Prod.fst).Nodup → optFold markS (ps.map pairD) acc = some (acc ++ ps.map Prod.fst)
  | [], acc, _, _, _ => by rw [List.map_nil, List.map_nil, List.append_nil]; rfl
  | p :: ps, acc, hh, hn, nd => by
    have hp := hh p List.mem_cons_self
    have nin : ¬ p.1 ∈ acc := fun hm => by
      rw [List.nodup_append] at nd
      exact nd.2.2 _ hm p.1 (by simp) rfl
    rw [List.map_cons, optFold_cons]
    have m1 : mark1 (pairD p) = some p.1 := by
      show (if isNameS p.1 && (handD p.2).isHand then some p.1 else none) = some p.1
      rw [hn p.1 (by simp), (qHands_ok hp).2.1, (qHands_ok hp).1]
      rfl
    have e : markS acc (pairD p) = some (acc ++ [p.1]) := by
      unfold markS
      rw [m1]
      show (if p.1 ∈ acc then none else some (acc ++ [p.1])) = _
      rw [if_neg nin]
    rw [e]
    show optFold markS (ps.map pairD) (acc ++ [p.1]) = _
    rw [fold_marks (fun q hq => hh q (List.mem_cons_of_mem _ hq)) (fun x hx => hn x (by rw [List.map_cons]; exact List.mem_cons_of_mem _ hx)) (by rw [List.append_assoc]; exact nd), List.append_assoc]
    rfl
theorem isMarks_self {ps : List (Str × D)} (hh : ∀ p ∈ ps, p.2 ∈ qHands) (hn : ∀ x ∈ ps.map Prod.fst, isNameS x = true) (nd : (ps.map Prod.fst).Nodup) : IsMarks (.lst (ps.map pairD)) ps ∧ firstMark (.lst (ps.map pairD)) = none := by
  have f := fold_marks (acc := []) hh hn (by simpa using nd)
  rw [List.nil_append] at f
  refine ⟨⟨_, rfl, ?_, fun p hp => (qHands_ok (hh p hp)).1, f⟩, stop_of 0 f⟩
  rw [List.map_map]
  refine List.map_congr_left fun p hp => ?_
  show some [D.str p.1, handD p.2] = some [D.str p.1, p.2]
  rw [(qHands_ok (hh p hp)).2.1]
theorem mk_near {C C2 C3 C4 : Addr} {T : List (Addr × Str)} {H0 : Hp} {x dx : Addr} {m wi gu : V} {S : Addr → Prop} {names : List Str} {q : Near} {Q : VK} {E : XK} (ok : NearOk names q) (ndn : (q.1.map Prod.fst).Nodup) (nx : H0 x = none) (nd : H0 dx = none) (ne : dx ≠ x)
    (rm : Rep S H0 (.lst (q.1.map pairD)) m) (rw_ : Rep S H0 (clausesD q.2.1) wi) (rg : Rep S H0 (clausesD q.2.2) gu) (t : Tabs T H0)
    (k : ∀ H', ExtN H0 H' → Tabs T H' → QAt C (NewN H0) H' x q.1 (q.2.1.map (sortLits (q.1.map Prod.fst))) (q.2.2.map (sortLits (q.1.map Prod.fst))) → Q .non H') : spInit C C2 C3 C4 T [.ref x, m, wi, gu] (upd (upd H0 dx (.own x)) x (.ins C dx [])) Q E := by
  obtain ⟨q1, q2⟩ := isMarks_self ok.hd (near_name ok) ndn
  obtain ⟨w1, w2⟩ := isClauses_loose (Loose.refl (clausesD q.2.1)) fun c hc => ⟨(ok.w c hc).1, (ok.w c hc).2.1⟩
  obtain ⟨g1, g2⟩ := isClauses_loose (Loose.refl (clausesD q.2.2)) fun c hc => ⟨(ok.g c hc).1, (ok.g c hc).2.1⟩
  have nx2 : upd H0 dx (.own x) x = none := by rw [upd_ne (Ne.symm ne)]; exact nx
  have l1 := ok.pl
  have l2 := ok.lw
  have l3 := ok.lg
  refine ⟨H0, x, dx, m, wi, gu, S, .lst (q.1.map pairD), clausesD q.2.1, clausesD q.2.2, rfl, (Same.new nd).trans (Same.new nx2), nx, upd_same, rm, rw_, rg, t, marksIn_of q1 (near_name ok) (by omega), clausesIn_of (Loose.refl _) (by omega) (fun c hc => by have := (ok.w c hc).2.2; omega), clausesIn_of (Loose.refl _) (by omega) (fun c hc => by have := (ok.g c hc).2.2; omega), ?_, ?_, ?_, ?_⟩
  · intro i hi
    rw [q2] at hi
    cases hi
  · intro ps2 i hp hi
    rw [marks_uniq hp q1, w2] at hi
    cases hi
  · intro ps2 cw2 i hp hw hi
    rw [marks_uniq hp q1, g2] at hi
    cases hi
  · intro ps2 cw2 cg2 hp hw hg H' e t' hq
    have e1 := marks_uniq hp q1
    subst e1
    have e2 := clauses_uniq hw w1
    have e3 := clauses_uniq hg g1
    subst e2
    subst e3
    exact k H' e t' hq
theorem near_okQ {names : List Str} {q : Near} (ok : NearOk names q) (cw cg : List (List (Str × Bool))) (hw : ∀ c ∈ cw, ∀ l ∈ c, l.1 ∈ q.1.map Prod.fst) (hg : ∀ c ∈ cg, ∀ l ∈ c, l.1 ∈ q.1.map Prod.fst) : okQ q.1 cw cg := by
  have cl : ∀ cs : List (List (Str × Bool)), (∀ c ∈ cs, ∀ l ∈ c, l.1 ∈ q.1.map Prod.fst) → (clausesD cs).ok 8 := fun cs h => D.ok_le (n := 3) (oks_mem fun d hd => by
    obtain ⟨c, hc, rfl⟩ := List.mem_map.mp hd
    exact lits_ok fun l hl => near_strOk ok _ (h c hc l hl)) (by decide)
  refine ⟨oks_mem fun d hd => ?_, oks_mem fun d hd => ?_, cl _ hw, cl _ hg⟩
  · obtain ⟨p, hp, rfl⟩ := List.mem_map.mp hd
    exact ok_str (near_strOk ok _ (List.mem_map_of_mem hp))
  · obtain ⟨p, hp, rfl⟩ := List.mem_map.mp hd
    exact D.ok_le (qHands_ok1 (ok.hd p hp)) (by decide)
theorem sort_mem {names : List Str} {cs : List (List (Str × Bool))} {P : Str → Prop} (h : ∀ c ∈ cs, ∀ l ∈ c, P l.1) : ∀ c ∈ cs.map (sortLits names), ∀ l ∈ c, P l.1 := fun c hc l hl => by
  obtain ⟨c0, h0, rfl⟩ := List.mem_map.mp hc
  exact h c0 h0 l (List.mem_mergeSort.mp hl)
end Q1

set_option Elab.async false
set_option maxRecDepth 100000
set_option maxHeartbeats 4000000
namespace Q1
open PySem L2 LamX PyProof.Rows
theorem extS_stay {a : Addr} {S : Addr → Prop} {H H' : Hp} {u : List V} (h : ExtS a H H') (hs : H a = some (.lst u)) (n : ¬ S a) : Stay S H H' := fun b o e nd => by
  by_cases q : b = a
  · subst q
    rw [hs] at e
    cases e
    rcases nd with ⟨_, _, k⟩ | ⟨_, k⟩ | k
    · exact absurd k n
    · cases k
    · cases k
  · refine h b o q e fun ps z => ?_
    subst z
    rcases nd with ⟨_, k, _⟩ | ⟨_, k⟩ | k <;> cases k
theorem qAt_extS {C q a : Addr} {S : Addr → Prop} {H H' : Hp} {u : List V} {ps : List (Str × D)} {cw cg : List (List (Str × Bool))} (h : QAt C S H q ps cw cg) (e : ExtS a H H') (hs : H a = some (.lst u)) (n : ¬ S a) : QAt C S H' q ps cw cg := by
  obtain ⟨dx, n1, hA, p, wl, gl, wc, wt, gc, gt, a1, a2, a3, a4, a5, a6, a7, a8, a9, a10⟩ := h
  have w : ∀ {d : D} {v : V}, Rep S H d v → Rep S H' d v := fun r => Rep.mono (fun _ z => z) (extS_stay e hs n) r
  refine ⟨dx, n1, hA, p, wl, gl, wc, wt, gc, gt, e _ _ (fun z => ?_) a1 (fun _ z => nomatch z), w a2, w a3, e _ _ (fun z => ?_) a4 (fun _ z => nomatch z), w a5, w a6, w a7, w a8, w a9, w a10⟩
  · rw [z, hs] at a1
    cases a1
  · rw [z, hs] at a4
    cases a4
theorem run_setEqD {S : Addr → Prop} {σ : L2.St} {H : Hp} {te tf : TE} {d e : D} {K : PySem.W.Frag} {n i : Nat} {De : Ends} {t2 : TS} (h : MkE S te σ H d) (k : MkE S tf σ H e) (hd : d.ok n) (he : e.ok n) (hn : n ≤ 64) (q : ∀ H2, Same H H2 → t2 De (σ.set i (some (.bl (d.eq e)))) H2) : tSeq (tAsg (tOp (rEqD K) te tf) (gName i)) t2 De σ H := h H _ (Same.refl _) fun H2 v s2 r => k H2 _ s2 fun H3 u s3 r2 =>
  ⟨d.py, e.py, (r.same s3).dp hd, r2.dp he, D.ok_shaped hd hn, D.ok_shaped he hn, q H3 (s2.trans s3)⟩
/-- what is no question -/
structure Qn (K : PySem.W.Frag) (C : Addr) : Prop where
  nt : PySem.W.notFirst K C (.type "tuple") = true
  ns : PySem.W.notFirst K C (.type "str") = true
  kt : PySem.W.kitOne K (.type "tuple") (.ref C) = some false
  ks : PySem.W.kitOne K (.type "str") (.ref C) = some false
theorem near_okD {names : List Str} {q : Near} (ok : NearOk names q) {cw cg : List (List (Str × Bool))} (hw : ∀ c ∈ cw, ∀ l ∈ c, l.1 ∈ q.1.map Prod.fst) (hg : ∀ c ∈ cg, ∀ l ∈ c, l.1 ∈ q.1.map Prod.fst) : (nearD (q.1, cw, cg)).ok 9 := by
  obtain ⟨_, _, k3, k4⟩ := near_okQ ok cw cg hw hg
  refine ⟨?_, k3, k4, trivial⟩
  refine D.ok_le (d := .lst (q.1.map pairD)) (n := 3) (oks_mem (n := 2) fun d hd => ?_) (by decide)
  obtain ⟨p, hp, rfl⟩ := List.mem_map.mp hd
  exact ⟨ok_str (near_strOk ok _ (List.mem_map_of_mem hp)), qHands_ok1 (ok.hd p hp), trivial⟩
section
variable {P : Program} {w : World} {K : PySem.W.Frag} {mg : Str → Option Value} {base : Heap}
/-! ### _law_like -/
abbrev sLike : Stmt := top 48
abbrev nLike : List Str := ["stream", "question", "made", "marks", "wishes", "guards", "names", "order", "due", "name", "hand", "clause"]
theorem scLike : FnScope nLike ["stream", "question"] (defScope sLike) := ⟨rfl, rfl, rfl, by decide +kernel, rfl, by decide +kernel, by decide +kernel⟩
def spLike (T : List (Addr × Str)) : Sp := fun vs H Q _ => ∃ (S : Addr → Prop) (s r : Addr) (n : Nat) (ps : List (Str × D)) (cw cg : List (List (Str × Bool))), vs = [.ref s, .ref r] ∧ Strm H s n ∧ n + 20000 < LIM ∧ Rep S H (qD ps cw cg) (.ref r) ∧ ¬ S s ∧ GoodQ ps cw cg ∧ Tabs T H ∧
  ∀ H', ExtS s H H' → Tabs T H' → Strm H' s (n + 20000) → Q (.bl true) H'
/-- the lambda's table of _law_ordered -/
structure To (base : Heap) (T : List (Addr × Str)) {K : PySem.W.Frag} {mg : Str → Option Value} (N : DnC K mg "_law_ordered" sOrdered ["names", "clause"]) : Prop where
  TB : TabB base mg N.c N.t
  hm : (N.t, ("_law_ordered.<locals>.<lambda>" : Str)) ∈ T
  hu : ∀ p ∈ T, p.1 = N.t → p.2 = "_law_ordered.<locals>.<lambda>"
theorem ok_like {T : List (Addr × Str)} (B : Bt mg) (W : Qw K mg) (TT : Tq base T W) (Y : Qe K W.Z.C) (Yn : Qn K W.Z.C) (N : Dn K mg "_law_like" sLike ["stream", "question"]) (NM' : Dn K mg "_law_q_made" sMade ["stream", "question"]) (NN : Dn K mg "_law_near" sNear ["stream", "question"]) (NO : Dn K mg "_law_each_once" sOnce ["some"]) (NR : DnC K mg "_law_ordered" sOrdered ["names", "clause"]) (TO : To base T NR)
    (NL : Dn K mg "_law_q_loose" sLoose ["stream", "thing"]) (NM : Dn K mg "_law_mixed" sMixed ["stream", "some"]) (ND : Dn K mg "_law_draw" sDraw ["stream", "many"]) (NP : Dn K mg "_law_pick" sPick ["stream", "some"]) :
    FnOk P w K mg base CX0 8 N.f N.fd ["stream", "question"] (spLike T) := by
  have GI : FnOk P w K mg base (L2.CX P w) 5 W.fi W.fdi ["self", "marks", "wishes", "guards"] (spInit W.Z.C W.Y.e2.C W.Y.e3.C W.Y.e4.C T) := ok_init B W.Cc W.Z W.Y W.F TT.TB TT.hm TT.hu
  have GM : FnOk P w K mg base CX0 7 NM'.f NM'.fd ["stream", "question"] (spMade W.Z.C T) := ok_made B W TT NM' NL NM ND
  have GN : FnOk P w K mg base CX0 3 NN.f NN.fd ["stream", "question"] spNear := ok_near B NN NP ND
  have GO : FnOk P w K mg base CX0 1 NO.f NO.fd ["some"] spOnce := ok_once B NO
  have GR : FnOk P w K mg base CX0 2 NR.f NR.fd ["names", "clause"] (spOrdered T) := ok_ordered B NR TO.TB TO.hm TO.hu
  have GE : FnOk P w K mg base CX0 1 Y.fe Y.fde ["self", "other"] (spEq K W.Z.C) := ok_eq B W.Z Y.I Y.Fe
  refine N.F.ok scLike (fun vs H Q E h => ?_) (fun cdv A outer s H vs Q E hr h => ?_)
  · obtain ⟨S, s, r, n, ps, cw, cg, rfl, _⟩ := h
    rfl
  · obtain ⟨S, a, r, n, ps, cw, cg, rfl, hs, hn, hq, hS, g, t0, k⟩ := h
    refine ⟨_, pss_cons (ps_set (i := 2) scLike.nd rfl (Or.inl rfl) (pe_call GM (hr.mono (by decide)) (by rfl) NM'.g NM'.F.kp NM'.b .nil pass0 (pa_cons (pv 0) (pa_cons (pv 1) pa_nil))))
      (pss_cons (ps_for PassesOwn.never rfl (pi_list (pe_call GN (hr.mono (by decide)) (by rfl) NN.g NN.F.kp NN.b .nil pass0 (pa_cons (pv 0) (pa_cons (pv 1) pa_nil)))) (pg_tup rfl (pgs_cons (pg_name (i := 3) scLike.nd rfl (Or.inl rfl)) (pgs_cons (pg_name (i := 4) scLike.nd rfl (Or.inl rfl)) (pgs_cons (pg_name (i := 5) scLike.nd rfl (Or.inl rfl)) pgs_nil))))
        (pss_cons (ps_set (i := 6) scLike.nd rfl (Or.inr rfl) (pe_lc (own := [("name", 9), ("hand", 10)]) (g := gTup K 2 (gCons (gName 9) (gCons (gName 10) gNil))) (tt := tYes) (te := tVar 9) rfl scLike.nd (pi_list (pv 3)) (blkOk_by (own := [("name", 9), ("hand", 10)]) (N := nLike) (sc := defScope sLike) (by decide +kernel))
            (fun _ _ _ _ _ => pg_tup (by rfl) (pgs_cons (pg_name (i := 9) scLike.nd (by rfl) (Or.inl (by rfl)) (by exact .inr rfl)) (pgs_cons (pg_name (i := 10) scLike.nd (by rfl) (Or.inl (by rfl)) (by exact .inr rfl)) pgs_nil))) (fun _ _ _ _ _ => pts_nil) (fun _ _ _ _ _ => pv 9)))
        (pss_one (ps_if (PW.pt (pw_and (pt_cmpR (op_neD hr.units) (pe_tup (pa_cons (pv 3) (pa_cons (pv 4) (pa_cons (pv 5) pa_nil)))) (pv 1) (nomark _)) (pw_and1 (pt_cmpR op_eq (pe_callB call_len_seq (by rfl) B.len boot_len (pa_cons (pv 6) pa_nil)) (pe_callB call_len_seq (by rfl) B.len boot_len (pa_cons (pe_call GO (hr.mono (by decide)) (by rfl) NO.g NO.F.kp NO.b .nil pass0 (pa_cons (pv 6) pa_nil)) pa_nil)) (nomark _)))))
          (pss_cons (ps_setLc (i := 7) (own := [("clause", 11)]) (g := gName 11) (tt := tYes) (te := tCall (spOrdered T) [] E0 (tCons (tVar 6) (tCons (tVar 11) tNil))) (by rfl) scLike.nd rfl rfl (sw_true rfl rfl rfl (by decide +kernel)) (pi_list (pv 4)) (blkOk_by (own := [("clause", 11)]) (N := nLike) (sc := defScope sLike) (by decide +kernel)) (fun _ _ _ _ _ => pg_name (i := 11) scLike.nd rfl (Or.inl rfl)) (fun _ _ _ _ _ => pts_nil)
            (fun _ _ _ _ _ => pe_call GR (hr.mono (by decide)) (by rfl) NR.g NR.F.kp NR.b .nil pass0 (pa_cons (pv 6) (pa_cons (pv 11) pa_nil))))
          (pss_cons (ps_set (i := 8) scLike.nd rfl (Or.inl rfl) (pe_cmpR (op_eqD hr.units) (pe_tup (pa_cons (pv 3) (pa_cons (pv 7) (pa_cons (pv 5) pa_nil)))) (pv 1) (nomark _)))
          (pss_one (ps_if (PW.pt (pw_or (pt_cmpR op_ne (pe_cmpR (op_ownEq GE (hr.mono (by decide)) Y.be Y.O) (pv 2) (pe_make W.M GI (hr.mono (by decide)) (by rfl) W.Z.g W.bi .nil passL (pa_cons (pv 3) (pa_cons (pv 4) (pa_cons (pv 5) pa_nil)))) (nomark _)) (pv 8) (nomark _))
            (pw_or1 (pt_cmpR op_ne (pe_cmpR (op_ownEq GE (hr.mono (by decide)) Y.be Y.O) (pe_make W.M GI (hr.mono (by decide)) (by rfl) W.Z.g W.bi .nil passL (pa_cons (pv 3) (pa_cons (pv 4) (pa_cons (pv 5) pa_nil)))) (pv 2) (nomark _)) (pv 8) (nomark _))))) pss_never pss_nil)))) pss_nil))))
      (pss_one (ps_ret (pe_and (pe_not (pe_cmpR (op_ownEq GE (hr.mono (by decide)) Y.be Y.O) (pv 2) (pv 1) (nomark _))) (pe_and (pe_not (pe_cmpR (op_ownEq GE (hr.mono (by decide)) Y.be Y.O) (pv 2) pe_str (nomark _)))
        (pe_one (pe_cmpR (op_ownEq GE (hr.mono (by decide)) Y.be Y.O) (pv 2) (pe_call GM (hr.mono (by decide)) (by rfl) NM'.g NM'.F.kp NM'.b .nil pass0 (pa_cons (pv 0) (pa_cons (pv 1) pa_nil))) (nomark _)))))))), ?_⟩
    obtain ⟨u0, hu0⟩ := hs.lst
    have hgok := goodQ_ok g
    refine ⟨_, rfl, _, rfl, S, a, r, n, ps, cw, cg, rfl, hs, by omega, hq, hS, g, t0, fun H1 x eS1 t1 qa1 nx1 hs1 => ?_⟩
    have hq1 : Rep S H1 (qD ps cw cg) (.ref r) := Rep.mono (fun _ z => z) (extS_stay eS1 hu0 hS) hq
    obtain ⟨u1, hu1⟩ := hs1.lst
    have nNa : ¬ NewN H a := fun z => by
      obtain ⟨_, q⟩ := z _ hu0
      cases q
    refine ⟨_, rfl, _, rfl, S, a, r, n + 5000, ps, cw, cg, rfl, hs1, by omega, hq1, hS, g, fun H2 f qs sm2 hs2 rq2 okq lq => ?_⟩
    have hq2 := sameS_rep sm2 hs1 hS hq1
    have qa2 := qAt_extS qa1 (ExtS.of sm2) hu1 nNa
    have t2 := tabs_sameS sm2 hu1 t1
    obtain ⟨_, vq, ef, _, hf2, rvq⟩ := rq2
    cases ef
    have any : ∀ {S : Addr → Prop} {H : Hp} {d : D} {v : V}, Rep S H d v → Rep (fun _ => True) H d v := fun r => Rep.mono (fun _ _ => trivial) (fun _ _ e _ => e) r
    refine ⟨f, rfl, ⟨_, SqL.of hf2⟩, for_list (K := K) (a := f) (xs := vq) (fun i σ H' => (∃ o3 o4 o5 o6 o7 o8 o9 o10 o11, σ = [some (.ref a), some (.ref r), some (.ref x), o3, o4, o5, o6, o7, o8, o9, o10, o11]) ∧ ExtN H2 H' ∧ Tabs T H') ⟨⟨_, _, _, _, _, _, _, _, _, rfl⟩, ExtN.refl _, t2⟩ (fun i σ H' _ y => SqL.of (y.2.1 _ _ hf2 (fun _ z => nomatch z))) ?_ ?_⟩
    · rintro i v σ H3 hv ⟨⟨o3, o4, o5, o6, o7, o8, o9, o10, o11, rfl⟩, e23, t3⟩
      obtain ⟨dq, hdq, rq⟩ := rvq.get hv
      rw [List.getElem?_map] at hdq
      cases hqi : qs[i]? with
      | none => rw [hqi] at hdq; cases hdq
      | some q =>
        rw [hqi] at hdq
        cases hdq
        have oq := okq q (List.mem_of_getElem? hqi)
        have rq3 := rq.extN e23
        obtain ⟨t, _, rfl, ht, mv, _, rfl, rmv, wv, _, rfl, rwv, gv, _, rfl, rgv, rfl⟩ := rq3
        refine ⟨t, _, rfl, SqT.of ht, rfl, ?_⟩
        refine ⟨_, _, rfl, _, _, rfl, _, _, rfl, rfl, ?_⟩
        obtain ⟨lm, ms, rfl, _, hlm, rms⟩ := id rmv
        have hml := rms.length
        rw [List.length_map] at hml
        have lq1 := oq.pl
        have lq2 := oq.lw
        have lq3 := oq.lg
        refine ⟨_, rfl, lm, rfl, ⟨_, SqL.of hlm⟩, fun D0 hD0 => lc_list (K := K) (a := lm) (xs := ms) (fun j H' => Same H3 H' ∧ H' D0 = some (.lst (((q.1.map Prod.fst).take j).map V.str))) ⟨Same.new hD0, upd_same⟩ (fun j H' _ y => SqL.of (y.1 _ _ hlm)) ?_ ?_⟩
        · rintro j y H4 hy ⟨sm, hz⟩
          obtain ⟨dy, hdy, ry⟩ := (rms.same sm).get hy
          rw [List.getElem?_map] at hdy
          cases hp : q.1[j]? with
          | none => rw [hp] at hdy; cases hdy
          | some p =>
            rw [hp] at hdy
            cases hdy
            obtain ⟨tp, _, rfl, htp, v1, _, rfl, r1, v2, _, rfl, r2, rfl⟩ := ry
            cases (show v1 = .str p.1 from r1)
            have hjl := (List.getElem?_eq_some_iff.mp hp).1
            refine ⟨tp, _, rfl, SqT.of htp, rfl, ?_⟩
            refine ⟨_, _, rfl, _, _, rfl, rfl, ?_⟩
            refine ⟨rfl, ?_⟩
            refine ⟨_, rfl, _, hz, ?_, Same.at sm hD0, ?_⟩
            · rw [List.length_map, List.length_take, List.length_map]
              exact Nat.lt_of_le_of_lt (Nat.min_le_right _ _) (Nat.lt_of_le_of_lt lq1 (by decide))
            · rw [upd_same, List.take_add_one, List.getElem?_map, hp, List.map_append]
              rfl
        · rintro H4 ⟨sm34, hz⟩
          rw [hml, show q.1.length = (q.1.map Prod.fst).length from (List.length_map _).symm, List.take_length] at hz
          refine tSeq_two (R := fun σ H' => (∃ o7 o8 o9 o10 o11, σ = [some (.ref a), some (.ref r), some (.ref x), some (.ref lm), some wv, some gv, some (.ref D0), o7, o8, o9, o10, o11]) ∧ H4 = H') (fun D' hD => hD _ _ ⟨⟨_, _, _, _, _, rfl⟩, rfl⟩) ?_
          rintro _ _ ⟨⟨o7, o8, o9, o10, o11, rfl⟩, rfl⟩
          have e24 := e23.trans (extN_of sm34)
          have t4 := t3.ext sm34
          have next : ∀ H', ExtN H4 H' → Tabs T H' → ExtN H2 H' ∧ Tabs T H' := fun H' e t => ⟨e24.trans e, t⟩
          have hwm : ∀ c ∈ q.2.1, ∀ l ∈ c, l.1 ∈ q.1.map Prod.fst := fun c hc => (oq.w c hc).1
          have hgm : ∀ c ∈ q.2.2, ∀ l ∈ c, l.1 ∈ q.1.map Prod.fst := fun c hc => (oq.g c hc).1
          refine run_ifAndNe (S := fun _ => True) (n := 9) (d := nearD q) (e := qD ps cw cg) (mk_tup (mkA_cons (mk_var rfl (any (rmv.same sm34))) (mkA_cons (mk_var rfl (any (rwv.same sm34))) (mkA_cons (mk_var rfl (any (rgv.same sm34))) mkA_nil)))) (mk_var rfl (any (hq2.extN e24))) (near_okD oq hwm hgm) (D.ok_le hgok.1 (by decide)) (by decide) fun H5 s45 => ?_
          have e25 := e24.trans (extN_of s45)
          have t5 := t4.ext s45
          have sm35 := sm34.trans s45
          cases (nearD q).eq (qD ps cw cg) with
          | true => exact iteF ⟨⟨_, _, _, _, _, _, _, _, _, rfl⟩, e25, t5⟩
          | false =>
            refine iteT ?_
            have hz5 := s45 _ _ hz
            refine ⟨_, rfl, D0, _, rfl, .inl (SqL.of hz5), _, rfl, D0, q.1.map Prod.fst, rfl, hz5, by rw [List.length_map]; omega, fun H6 r6 s56 nr6 hr6 => ⟨r6, _, rfl, .inl (SqL.of hr6), rfl, _, rfl, ?_⟩⟩
            have e26 := e25.trans (extN_of s56)
            have t6 := t5.ext s56
            have sm36 := sm35.trans s56
            refine ite2 (fun hcc => ?_) (fun _ => ⟨⟨_, _, _, _, _, _, _, _, _, rfl⟩, e26, t6⟩)
            have hnd : (q.1.map Prod.fst).Nodup := once_of (by
              have z := of_decide_eq_true hcc
              injection z with z3
              simp only [List.length_map] at z3 ⊢
              omega)
            have hz6 := s56 _ _ hz5
            obtain ⟨lw, ws, rfl, _, hlw, rws⟩ := id (rwv.same sm36)
            have hwl := rws.length
            rw [List.length_map] at hwl
            refine ⟨_, rfl, lw, rfl, ⟨_, SqL.of hlw⟩, fun D1 hD1 => lc_list (K := K) (a := lw) (xs := ws) (fun j H' => ExtN H6 H' ∧ Tabs T H' ∧ ∃ zs, H' D1 = some (.lst zs) ∧ Reps (fun b => b ≠ D1) H' (((q.2.1.map (sortLits (q.1.map Prod.fst))).take j).map litsD) zs) ⟨extN_of (Same.new hD1), tabs_new t6 hD1, [], upd_same, rfl⟩ (fun j H' _ y => SqL.of (y.1 _ _ hlw (fun _ z => nomatch z))) ?_ ?_⟩
            · rintro j y H7 hy ⟨e67, t7, zs, hzs, rzs⟩
              obtain ⟨dy, hdy, ry⟩ := (rws.extN e67).get hy
              rw [List.getElem?_map] at hdy
              cases hc : q.2.1[j]? with
              | none => rw [hc] at hdy; cases hdy
              | some c =>
                rw [hc] at hdy
                cases hdy
                have hcm := List.mem_of_getElem? hc
                obtain ⟨c1, c2, c3⟩ := oq.w c hcm
                refine ⟨rfl, ?_⟩
                refine ⟨_, rfl, _, rfl, _, c, y, D0, q.1.map Prod.fst, rfl, e67 _ _ hz6 (fun _ z => nomatch z), ry, c1, by omega, t7, fun H8 r8 e78 t8 rr8 => ?_⟩
                have hzs8 := e78 _ _ hzs (fun _ z => nomatch z)
                have hzl := rzs.length
                rw [List.length_map, List.length_take, List.length_map] at hzl
                have st : ∀ o, Stay (fun b => b ≠ D1) H8 (upd H8 D1 o) := fun o => stay_upd hzs8 (nd_lst fun z => z rfl)
                refine ⟨zs, hzs8, Nat.lt_of_lt_of_le (show zs.length < 1000 by omega) (by decide), ExtN.at' (e67.trans e78) hD1, tabs_lst t8 hzs8, _, upd_same, ?_⟩
                rw [List.take_add_one, List.getElem?_map, hc, List.map_append]
                refine Reps.append (Reps.mono (fun _ z => z) (st _) (rzs.extN e78)) (Reps.one (Rep.mono (fun _ z => z) (st _) (Rep.mono (fun b z => fun (w : b = D1) => ?_) (fun _ _ e _ => e) rr8)))
                obtain ⟨_, q2⟩ := z _ (w ▸ hzs)
                cases q2
            · rintro H7 ⟨e67, t7, zs, hzs, rzs⟩
              rw [hwl, show q.2.1.length = (q.2.1.map (sortLits (q.1.map Prod.fst))).length from (List.length_map _).symm, List.take_length] at rzs
              refine tSeq_two (R := fun σ H' => (∃ o8 o9 o10 o11, σ = [some (.ref a), some (.ref r), some (.ref x), some (.ref lm), some (.ref lw), some gv, some (.ref D0), some (.ref D1), o8, o9, o10, o11]) ∧ H7 = H') (fun D' hD => hD _ _ ⟨⟨_, _, _, _, rfl⟩, rfl⟩) ?_
              rintro _ _ ⟨⟨o8, o9, o10, o11, rfl⟩, rfl⟩
              have e27 := e26.trans e67
              have e37 := (extN_of sm36).trans e67
              have rD1 : Rep (fun _ => True) H7 (clausesD (q.2.1.map (sortLits (q.1.map Prod.fst)))) (.ref D1) := ⟨D1, zs, rfl, trivial, hzs, Reps.mono (fun _ _ => trivial) (fun _ _ e _ => e) rzs⟩
              have hsm : ∀ c ∈ q.2.1.map (sortLits (q.1.map Prod.fst)), ∀ l ∈ c, l.1 ∈ q.1.map Prod.fst := sort_mem (P := fun y => y ∈ q.1.map Prod.fst) hwm
              have hsg : ∀ c ∈ q.2.2.map (sortLits (q.1.map Prod.fst)), ∀ l ∈ c, l.1 ∈ q.1.map Prod.fst := sort_mem (P := fun y => y ∈ q.1.map Prod.fst) hgm
              refine run_setEqD (S := fun _ => True) (n := 9) (d := nearD (q.1, q.2.1.map (sortLits (q.1.map Prod.fst)), q.2.2)) (e := qD ps cw cg) (mk_tup (mkA_cons (mk_var rfl (any (rmv.extN e37))) (mkA_cons (mk_var rfl rD1) (mkA_cons (mk_var rfl (any (rgv.extN e37))) mkA_nil)))) (mk_var rfl (any (hq2.extN e27))) (near_okD oq hsm hgm) (D.ok_le hgok.1 (by decide)) (by decide) fun H8 s78 => ?_
              have e38 := e37.trans (extN_of s78)
              have e28 := e27.trans (extN_of s78)
              have t8 := t7.ext s78
              have qa8 := qAt_extN qa2 e28
              obtain ⟨dxa, _, _, _, _, _, _, _, _, _, axa, _⟩ := id qa8
              have okq1 := okQ_of g
              have okq2 := near_okQ oq _ _ hsm hsg
              have nf : PySem.W.notFirst K W.Z.C (.ref W.Z.C) = true := by unfold PySem.W.notFirst; simp
              have d1 := due_eq g oq
              have d2 : eqQ ps q.1 cw (q.2.1.map (sortLits (q.1.map Prod.fst))) cg (q.2.2.map (sortLits (q.1.map Prod.fst))) = dueB q ps cw cg := by rw [eqQ_comm, d1]
              have bf : ∀ b : Bool, (false != b) = b := fun b => by cases b <;> rfl
              refine ⟨_, rfl, _, rfl, _, rfl, _, rfl, fun x2 dx2 nx2 ndx2 ne2 => ?_⟩
              refine mk_near oq hnd nx2 ndx2 ne2 (any (rmv.extN e38)) (any (rwv.extN e38)) (any (rgv.extN e38)) t8 fun H9 e89 t9 qb => ⟨rfl, ?_⟩
              have qa9 := qAt_extN qa8 e89
              obtain ⟨dxb, _, _, _, _, _, _, _, _, _, axb, _⟩ := id qb
              refine ⟨x, dxa, _, .ref W.Z.C, rfl, e89 _ _ axa (fun _ z => nomatch z), Y.I.ins axb, nf, x, .ref x2, rfl, .inr ⟨_, _, x2, ps, q.1, cw, _, cg, _, rfl, qa9, qb, okq1, okq2, _, rfl, _, rfl, rfl, _, rfl, ?_⟩⟩
              rw [d2, bf]
              rw [decide_eq_true (show V.bl (dueB q ps cw cg) = V.bl ((nearD (q.1, q.2.1.map (sortLits (q.1.map Prod.fst)), q.2.2)).eq (qD ps cw cg)) from rfl)]
              refine iteF ?_
              have e39 := e38.trans e89
              refine ⟨_, rfl, _, rfl, _, rfl, fun x3 dx3 nx3 ndx3 ne3 => ?_⟩
              refine mk_near oq hnd nx3 ndx3 ne3 (any (rmv.extN e39)) (any (rwv.extN e39)) (any (rgv.extN e39)) t9 fun H10 e910 t10 qc => ⟨rfl, _, rfl, ?_⟩
              have qa10 := qAt_extN qa9 e910
              obtain ⟨dxc, _, _, _, _, _, _, _, _, _, axc, _⟩ := id qc
              obtain ⟨dxd, _, _, _, _, _, _, _, _, _, axd, _⟩ := id qa10
              refine ⟨x3, dxc, _, .ref W.Z.C, rfl, axc, Y.I.ins axd, nf, x3, .ref x, rfl, .inr ⟨_, _, x, q.1, ps, _, cw, _, cg, rfl, qc, qa10, okq2, okq1, _, rfl, _, rfl, rfl, _, rfl, ?_⟩⟩
              rw [d1, bf]
              rw [decide_eq_true (show V.bl (dueB q ps cw cg) = V.bl ((nearD (q.1, q.2.1.map (sortLits (q.1.map Prod.fst)), q.2.2)).eq (qD ps cw cg)) from rfl)]
              exact iteF ⟨⟨_, _, _, _, _, _, _, _, _, rfl⟩, (e28.trans e89).trans e910, t10⟩
    · rintro σ H3 ⟨⟨o3, o4, o5, o6, o7, o8, o9, o10, o11, rfl⟩, e23, t3⟩
      have qa3 := qAt_extN qa2 e23
      have hq3 := hq2.extN e23
      have hs3 := strm_extN hs2 e23
      obtain ⟨dxa, _, _, _, _, _, _, _, _, _, axa, _⟩ := id qa3
      have nf : PySem.W.notFirst K W.Z.C (.ref W.Z.C) = true := by unfold PySem.W.notFirst; simp
      have tyT : TyX K H3 (.ref r) (.type "tuple") := hq3.ty
      refine ⟨_, rfl, _, rfl, x, dxa, _, .type "tuple", rfl, axa, tyT, Yn.nt, x, .ref r, rfl, .inl ⟨.type "tuple", tyT, Yn.kt, _, rfl, _, rfl, _, rfl, ?_⟩⟩
      refine iteT ?_
      refine ⟨_, rfl, x, dxa, _, .type "str", rfl, axa, .base (.str _), Yn.ns, x, .str "question", rfl, .inl ⟨.type "str", .base (.str _), Yn.ks, _, rfl, _, rfl, _, rfl, ?_⟩⟩
      refine iteT ?_
      refine ⟨_, rfl, _, rfl, _, rfl, S, a, r, n + 5000 + 2, ps, cw, cg, rfl, hs3, by omega, hq3, hS, g, t3, fun H4 x4 eS4 t4 qb nx4 hs4 => ?_⟩
      obtain ⟨u3, hu3⟩ := hs3.lst
      have qa4 := qAt_extS qa3 eS4 hu3 nNa
      obtain ⟨dxb, _, _, _, _, _, _, _, _, _, axb, _⟩ := id qb
      obtain ⟨dxc, _, _, _, _, _, _, _, _, _, axc, _⟩ := id qa4
      have okq := okQ_of g
      refine ⟨x, dxc, _, .ref W.Z.C, rfl, axc, Y.I.ins axb, nf, x, .ref x4, rfl, .inr ⟨_, _, x4, ps, ps, cw, cw, cg, cg, rfl, qa4, qb, okq, okq, _, rfl, ?_⟩⟩
      rw [eqQ_refl okq]
      exact k H4 (((eS1.trans (ExtS.of sm2)).trans (ExtS.ofN e23)).trans eS4) t4 (hs4.mono (by omega))
end
end Q1

set_option Elab.async false
set_option maxRecDepth 100000
set_option maxHeartbeats 4000000
namespace Q1
open PySem L2 LamX PyProof.Rows
section
variable {S : Addr → Prop} {σ : L2.St} {H : Hp} {te tl : TE} {ta : TA} {d e : D} {ds es : List D} {K : PySem.W.Frag}
theorem mk_dnew : MkE S tDNewK σ H .dic := fun H1 _ _ k p hp => k _ (.ref p) (Same.new hp) ⟨p, rfl, upd_same⟩
theorem mk_listOf (hS : ∀ p, H p = none → S p) (h : MkE S te σ H d) (hd : d.items? = some ds) : MkE S (tCB (rListOf K) (tCons te tNil)) σ H (.lst ds) := fun H1 _ s q => h H1 _ s fun H2 v s2 r => by
  obtain ⟨a, vs, rfl, hq, ra⟩ := r.seq (K := K) hd
  exact ⟨a, vs, rfl, hq, fun l hl => q _ (.ref l) (s2.trans (Same.new hl)) ⟨l, vs, rfl, hS l (none_back (s.trans s2) hl), upd_same, ra.same (Same.new hl)⟩⟩
def rLenS (K : PySem.W.Frag) : List V → Hp → VK → Prop := fun xs H Q => ∃ p ys, xs = [.ref p] ∧ (SqL K H p ys ∨ SqT K H p ys) ∧ Q (.int ys.length) H
theorem call_lenS {X : Cx} : CallR X (.builtin "len") (rLenS X.K) := call_len_seq
theorem mk_len (h : MkE S te σ H d) (hd : d.items? = some ds) : MkE S (tCB (rLenS K) (tCons te tNil)) σ H (.int (ds.length : Nat)) := fun H1 _ s q => h H1 _ s fun H2 v s2 r => by
  obtain ⟨a, vs, rfl, hq, ra⟩ := r.seq (K := K) hd
  refine ⟨a, vs, rfl, hq, q _ _ s2 ?_⟩
  show V.int _ = V.int _
  rw [ra.length]
/-- a comprehension that only makes data, over a list -/
theorem run_lcL {own : List Nat} {g : TG} {Q : VK} (hS : ∀ p, H p = none → S p) (h : MkE S tl σ H (.lst ds)) (hlen : es.length = ds.length) (hsz : ds.length ≤ 1000)
    (he : ∀ (S' : Addr → Prop) (H1 : Hp) (j : Nat) (d e : D) (v : V), Same H H1 → (∀ p, H1 p = none → S' p) → (∀ b, S b → H b ≠ none → S' b) → ds[j]? = some d → es[j]? = some e → Rep S' H1 d v → ∀ Q' : L2.St → Hp → Prop, (∀ σ2, wipe σ2 own = wipe σ own → MkE S' te σ2 H1 e → Q' σ2 H1) → g v (wipe σ own) H1 Q')
    (k : ∀ H3 D0 zs, Same H H3 → H D0 = none → H3 D0 = some (.lst zs) → Reps (fun b => S b ∧ b ≠ D0) H3 es zs → Q (.ref D0) H3) : tLc (iList K tl) g tYes te own σ H Q := h H _ (Same.refl _) fun H2 v s2 r => by
  obtain ⟨a, vs, rfl, _, ha, ra⟩ := r
  have hvl := ra.length
  refine ⟨a, rfl, ⟨_, SqL.of ha⟩, fun D0 hD => lc_list (K := K) (a := a) (xs := vs) (fun j H' => Same H2 H' ∧ ∃ zs, H' D0 = some (.lst zs) ∧ Reps (fun b => S b ∧ b ≠ D0) H' (es.take j) zs) ⟨Same.new hD, [], upd_same, rfl⟩ (fun j H' _ y => SqL.of (y.1 _ _ ha)) ?_ ?_⟩
  · rintro j x H' hx ⟨sm, zs, hz, rz⟩
    have hjl : j < vs.length := (List.getElem?_eq_some_iff.mp hx).1
    obtain ⟨d, hd, rx⟩ := (ra.here.same sm).get hx
    have hej : es[j]? = some (es[j]'(by omega)) := List.getElem?_eq_getElem (by omega)
    have hHD : H D0 = none := none_back s2 hD
    refine he (fun b => S b ∧ b ≠ D0) H' j d _ x (s2.trans sm) (fun p hp => ⟨hS p (none_back (s2.trans sm) hp), fun z => by rw [z, hz] at hp; cases hp⟩) (fun b hb hn => ⟨hb, fun z => hn (z ▸ hHD)⟩) hd hej (Rep.mono (fun b z => ⟨z.1, fun q => z.2 (by rw [q]; exact hD)⟩) (fun _ _ e _ => e) rx) _ fun σ2 hw mk => ⟨hw, ?_⟩
    refine mk H' _ (Same.refl _) fun H4 y s4 r4 => ?_
    have hz4 := s4 _ _ hz
    have hzl := rz.length
    rw [List.length_take] at hzl
    have st : Stay (fun b => S b ∧ b ≠ D0) H4 (upd H4 D0 (.lst (zs ++ [y]))) := stay_upd hz4 (nd_lst fun z => z.2 rfl)
    refine ⟨zs, hz4, Nat.lt_of_lt_of_le (show zs.length < 1001 by omega) (by decide), Same.at (sm.trans s4) hD, _, upd_same, ?_⟩
    rw [List.take_add_one, hej]
    exact Reps.append (Reps.mono (fun _ z => z) st (rz.same s4)) (Reps.one (Rep.mono (fun _ z => z) st r4))
  · rintro H3 ⟨sm, zs, hz, rz⟩
    rw [hvl, ← hlen, List.take_length] at rz
    exact k H3 D0 zs (s2.trans sm) (none_back s2 hD) hz rz
theorem mk_lcL {own : List Nat} {g : TG} (hS : ∀ p, H p = none → S p) (h : MkE S tl σ H (.lst ds)) (hlen : es.length = ds.length) (hsz : ds.length ≤ 1000)
    (he : ∀ (S' : Addr → Prop) (H1 : Hp) (j : Nat) (d e : D) (v : V), Same H H1 → (∀ p, H1 p = none → S' p) → (∀ b, S b → H b ≠ none → S' b) → ds[j]? = some d → es[j]? = some e → Rep S' H1 d v → ∀ Q' : L2.St → Hp → Prop, (∀ σ2, wipe σ2 own = wipe σ own → MkE S' te σ2 H1 e → Q' σ2 H1) → g v (wipe σ own) H1 Q') :
    MkE S (tLc (iList K tl) g tYes te own) σ H (.lst es) := fun H1 Q s k => run_lcL (S := S) (H := H1) (fun p hp => hS p (none_back s hp)) (fun H2 Q2 s2 k2 => h H2 Q2 (s.trans s2) k2) hlen hsz (fun S' H2 j d e v s2 h1 h2 => he S' H2 j d e v (s.trans s2) h1 (fun b hb hn => h2 b hb (fun z => hn (none_back s z)))) fun H3 D0 zs s3 hD hz rz => k H3 (.ref D0) s3 ⟨D0, zs, rfl, hS D0 (none_back s hD), hz, Reps.mono (fun _ z => z.1) (fun _ _ e _ => e) rz⟩
/-- the same over a tuple -/
theorem run_lcT {own : List Nat} {g : TG} {Q : VK} (hS : ∀ p, H p = none → S p) (h : MkE S tl σ H (.tup ds)) (hlen : es.length = ds.length) (hsz : ds.length ≤ 1000)
    (he : ∀ (S' : Addr → Prop) (H1 : Hp) (j : Nat) (d e : D) (v : V), Same H H1 → (∀ p, H1 p = none → S' p) → (∀ b, S b → H b ≠ none → S' b) → ds[j]? = some d → es[j]? = some e → Rep S' H1 d v → ∀ Q' : L2.St → Hp → Prop, (∀ σ2, wipe σ2 own = wipe σ own → MkE S' te σ2 H1 e → Q' σ2 H1) → g v (wipe σ own) H1 Q')
    (k : ∀ H3 D0 zs, Same H H3 → H D0 = none → H3 D0 = some (.lst zs) → Reps (fun b => S b ∧ b ≠ D0) H3 es zs → Q (.ref D0) H3) : tLc (iTup K tl) g tYes te own σ H Q := h H _ (Same.refl _) fun H2 v s2 r => by
  obtain ⟨a, vs, rfl, ha, ra⟩ := r
  have hvl := ra.length
  refine ⟨a, rfl, ⟨_, SqT.of ha⟩, fun D0 hD => lc_tup (K := K) (a := a) (xs := vs) (fun j H' => Same H2 H' ∧ ∃ zs, H' D0 = some (.lst zs) ∧ Reps (fun b => S b ∧ b ≠ D0) H' (es.take j) zs) ⟨Same.new hD, [], upd_same, rfl⟩ (fun j H' _ y => SqT.of (y.1 _ _ ha)) ?_ ?_⟩
  · rintro j x H' hx ⟨sm, zs, hz, rz⟩
    have hjl : j < vs.length := (List.getElem?_eq_some_iff.mp hx).1
    obtain ⟨d, hd, rx⟩ := (ra.here.same sm).get hx
    have hej : es[j]? = some (es[j]'(by omega)) := List.getElem?_eq_getElem (by omega)
    have hHD : H D0 = none := none_back s2 hD
    refine he (fun b => S b ∧ b ≠ D0) H' j d _ x (s2.trans sm) (fun p hp => ⟨hS p (none_back (s2.trans sm) hp), fun z => by rw [z, hz] at hp; cases hp⟩) (fun b hb hn => ⟨hb, fun z => hn (z ▸ hHD)⟩) hd hej (Rep.mono (fun b z => ⟨z.1, fun q => z.2 (by rw [q]; exact hD)⟩) (fun _ _ e _ => e) rx) _ fun σ2 hw mk => ⟨hw, ?_⟩
    refine mk H' _ (Same.refl _) fun H4 y s4 r4 => ?_
    have hz4 := s4 _ _ hz
    have hzl := rz.length
    rw [List.length_take] at hzl
    have st : Stay (fun b => S b ∧ b ≠ D0) H4 (upd H4 D0 (.lst (zs ++ [y]))) := stay_upd hz4 (nd_lst fun z => z.2 rfl)
    refine ⟨zs, hz4, Nat.lt_of_lt_of_le (show zs.length < 1001 by omega) (by decide), Same.at (sm.trans s4) hD, _, upd_same, ?_⟩
    rw [List.take_add_one, hej]
    exact Reps.append (Reps.mono (fun _ z => z) st (rz.same s4)) (Reps.one (Rep.mono (fun _ z => z) st r4))
  · rintro H3 ⟨sm, zs, hz, rz⟩
    rw [hvl, ← hlen, List.take_length] at rz
    exact k H3 D0 zs (s2.trans sm) (none_back s2 hD) hz rz
theorem mk_lcT {own : List Nat} {g : TG} (hS : ∀ p, H p = none → S p) (h : MkE S tl σ H (.tup ds)) (hlen : es.length = ds.length) (hsz : ds.length ≤ 1000)
    (he : ∀ (S' : Addr → Prop) (H1 : Hp) (j : Nat) (d e : D) (v : V), Same H H1 → (∀ p, H1 p = none → S' p) → (∀ b, S b → H b ≠ none → S' b) → ds[j]? = some d → es[j]? = some e → Rep S' H1 d v → ∀ Q' : L2.St → Hp → Prop, (∀ σ2, wipe σ2 own = wipe σ own → MkE S' te σ2 H1 e → Q' σ2 H1) → g v (wipe σ own) H1 Q') :
    MkE S (tLc (iTup K tl) g tYes te own) σ H (.lst es) := fun H1 Q s k => run_lcT (S := S) (H := H1) (fun p hp => hS p (none_back s hp)) (fun H2 Q2 s2 k2 => h H2 Q2 (s.trans s2) k2) hlen hsz (fun S' H2 j d e v s2 h1 h2 => he S' H2 j d e v (s.trans s2) h1 (fun b hb hn => h2 b hb (fun z => hn (none_back s z)))) fun H3 D0 zs s3 hD hz rz => k H3 (.ref D0) s3 ⟨D0, zs, rfl, hS D0 (none_back s hD), hz, Reps.mono (fun _ z => z.1) (fun _ _ e _ => e) rz⟩
theorem run_extend {i : Nat} {De : Ends} {t2 : TS} {l : Addr} {vs : List V} (hσ : σ[i]? = some (some (.ref l))) (hl : H l = some (.lst vs)) (mk : MkE S te σ H (.lst ds)) (hn : vs.length + ds.length ≤ 1000) (k : ∀ H2 us, Same H H2 → Reps S H2 ds us → t2 De σ (upd H2 l (.lst (vs ++ us)))) :
    tSeq (tDrop (tBM K "list" rExtend (tVar i) (tCons te tNil))) t2 De σ H := ⟨_, hσ, .inl ⟨rfl, _, SqL.of hl⟩, mk H _ (Same.refl _) fun H2 v s r => by
  obtain ⟨b, us, rfl, _, hb, ru⟩ := r
  exact ⟨l, b, vs, us, rfl, rfl, s _ _ hl, hb, by rw [ru.length]; exact Nat.le_trans hn (by decide), k H2 us s ru⟩⟩
theorem run_append {i : Nat} {De : Ends} {l : Addr} {vs : List V} (hσ : σ[i]? = some (some (.ref l))) (hl : H l = some (.lst vs)) (mk : MkE S te σ H d) (hn : vs.length ≤ 1000) (k : ∀ H2 u, Same H H2 → Rep S H2 d u → De.nx σ (upd H2 l (.lst (vs ++ [u])))) :
    tDrop (tBM K "list" rAppend (tVar i) (tCons te tNil)) De σ H := ⟨_, hσ, .inl ⟨rfl, _, SqL.of hl⟩, mk H _ (Same.refl _) fun H2 v s r => ⟨l, vs, v, rfl, rfl, s _ _ hl, Nat.lt_of_le_of_lt hn (by decide), k H2 v s r⟩⟩
end
/-! ### what is no list of marks -/
def pairL (p : Str × D) : D := .lst [.str p.1, handD p.2]
def odds5 : List D := [.non, .int 5, .str "we x", .dic, .bl true]
def oddsM : List D := [.non, .int 5, .str "a", .lst [], .lst [.str "n1"], .lst [.str "n1", .str "we", .int 1], .lst [.str "N", .str "we"], .lst [.str "", .str "we"], .lst [.str "ninesigns", .str "we"], .lst [.int 5, .str "we"]]
def oddsM2 : List D := [.lst [.str "n1", .str "us"], .lst [.str "n1", .non], .lst [.str "n1", .tup [.int 1, .int 1]], .lst [.str "n1", .tup [.int 0, .int 2]], .lst [.str "n1", .tup [.int 3, .int 2]], .lst [.str "n1", .tup [.int 1, .int 2, .int 3]]]
def oddsM3 : List D := [.lst [.str "n1", .tup [.bl true, .int 2]], .lst [.str "n1", .tup [.str "1", .int 2]], .lst [.str "n1", .tup [.int 1, .non]], .lst [.str "n1", .lst []], .lst [.lst [.str "n1"], .str "we"], .lst [.str "1a", .str "they"]]
def headD (d : D) : D := match d with
  | .lst xs => .lst (xs.take 1)
  | _ => .non
def shortb : D → Bool
  | .str s => decide (s.length ≤ 100)
  | _ => true
def shortsb (d : D) : Bool := match d.items? with
  | some xs => xs.all shortb
  | none => true
mutual
def D.okb : Nat → D → Bool
  | _, .str x => PyData.strOk x
  | 0, .lst _ => false
  | 0, .tup _ => false
  | n + 1, .lst xs => oksb n xs
  | n + 1, .tup xs => oksb n xs
  | _, .dic => false
  | _, .non => true
  | _, .bl _ => true
  | _, .int _ => true
def oksb : Nat → List D → Bool
  | _, [] => true
  | n, x :: xs => x.okb n && oksb n xs
end
mutual
theorem okb_ok : ∀ {n : Nat} {d : D}, d.okb n = true → d.ok n
  | n, .str x, h => by unfold D.okb at h; unfold D.ok; exact h
  | 0, .lst _, h => by unfold D.okb at h; cases h
  | 0, .tup _, h => by unfold D.okb at h; cases h
  | n + 1, .lst xs, h => by unfold D.okb at h; exact oksb_ok h
  | n + 1, .tup xs, h => by unfold D.okb at h; exact oksb_ok h
  | 0, .dic, h => by unfold D.okb at h; cases h
  | _ + 1, .dic, h => by unfold D.okb at h; cases h
  | 0, .non, _ => trivial
  | _ + 1, .non, _ => trivial
  | 0, .bl _, _ => trivial
  | _ + 1, .bl _, _ => trivial
  | 0, .int _, _ => trivial
  | _ + 1, .int _, _ => trivial
theorem oksb_ok : ∀ {n : Nat} {ds : List D}, oksb n ds = true → oks n ds
  | _, [], _ => trivial
  | n, d :: ds, h => by
    unfold oksb at h
    rw [Bool.and_eq_true] at h
    exact ⟨okb_ok h.1, oksb_ok h.2⟩
end
theorem oddsM_bad : ∀ d ∈ oddsM ++ oddsM2 ++ oddsM3, mark1 d = none ∧ shortsb d = true ∧ (headD d).okb 4 = true ∧ ∀ n ∈ qNames, (headD d).eq (.lst [.str n]) = false := by decide +kernel
theorem odds5_bad : ∀ d ∈ odds5, d.items?.isNone = true := by decide +kernel
theorem shortb_short {d : D} (h : shortb d = true) : d.short := by
  cases d with
  | str s =>
    have h : decide (s.length ≤ 100) = true := h
    exact Nat.le_trans (of_decide_eq_true h) (by decide)
  | _ => trivial
theorem fold_L : ∀ (ps : List (Str × D)) (acc : List Str), optFold markS (ps.map pairL) acc = optFold markS (ps.map pairD) acc
  | [], _ => rfl
  | p :: ps, acc => by
    rw [List.map_cons, List.map_cons, optFold_cons, optFold_cons]
    have e : markS acc (pairL p) = markS acc (pairD p) := rfl
    rw [e]
    cases markS acc (pairD p) with
    | none => rfl
    | some c => exact fold_L ps c
/-- what is no list of marks, and the index of its first fault -/
def BentM (r : D × Nat) : Prop := firstMark r.1 = some r.2 ∧ MarksIn r.1
def bentD (r : D × Nat) : D := .tup [r.1, .int (r.2 : Nat)]
theorem bent5 {d : D} (h : d ∈ odds5) : BentM (d, 0) := by
  have hn : d.items? = none := by
    have := odds5_bad d h
    cases e : d.items? with
    | none => rfl
    | some x => rw [e] at this; cases this
  refine ⟨by unfold firstMark; rw [show (d, 0).1 = d from rfl, hn], ?_, fun ds hd => ?_⟩
  · unfold D.small
    rw [show (d, 0).1 = d from rfl, hn]
    trivial
  · rw [show (d, 0).1 = d from rfl, hn] at hd
    cases hd
theorem bentM_at {ps : List (Str × D)} {cw cg : List (List (Str × Bool))} (g : GoodQ ps cw cg) {i : Nat} (hi : i ≤ ps.length) {o : D} (ho : markS ((ps.map Prod.fst).take i) o = none) (hs : shortsb o = true) :
    BentM (.lst ((ps.map pairL).take i ++ [o, .non] ++ (ps.map pairL).drop i), i) := by
  have hl : ((ps.map pairL).take i).length = i := by rw [List.length_take, List.length_map]; omega
  have hnm : ∀ x ∈ ps.map Prod.fst, isNameS x = true := fun x hx => qNames_name x (g.nm x hx)
  have f : optFold markS (((ps.map pairL).take i ++ [o, .non] ++ (ps.map pairL).drop i).take i) [] = some ((ps.map Prod.fst).take i) := by
    rw [List.append_assoc, List.take_left' hl, ← List.map_take, fold_L, fold_marks (fun p hp => g.hd p (List.mem_of_mem_take hp)) (fun x hx => hnm x (by rw [List.map_take] at hx; exact List.mem_of_mem_take hx)) (by rw [List.nil_append, List.map_take]; exact (List.take_sublist _ _).nodup g.nd), List.nil_append, List.map_take]
  have ga : ((ps.map pairL).take i ++ [o, .non] ++ (ps.map pairL).drop i)[i]? = some o := by
    rw [List.append_assoc, List.getElem?_append_right (by omega), hl, Nat.sub_self]
    rfl
  refine ⟨?_, ?_, fun ds hd x hx xs hxs y hy => ?_⟩
  · have := stopAt_some (f := markS) 0 f ga ho
    rw [Nat.zero_add] at this
    exact this
  · have := g.pl
    show (_ : List D).length ≤ 1000
    simp only [List.length_append, List.length_take, List.length_drop, List.length_map, List.length_cons, List.length_nil]
    omega
  · cases (show some _ = some ds from hd)
    have hpL : ∀ p ∈ ps, x = pairL p → y.short := fun p hp e => by
      rw [e] at hxs
      cases (show some _ = some xs from hxs)
      have e2 : y = .str p.1 ∨ y = handD p.2 := by simpa using hy
      rcases e2 with rfl | rfl
      · exact short_of_name (hnm _ (List.mem_map_of_mem hp))
      · rw [(qHands_ok (g.hd p hp)).2.1]
        exact short_hand (qHands_ok (g.hd p hp)).1
    rcases List.mem_append.mp hx with hx | hx
    · rcases List.mem_append.mp hx with hx | hx
      · obtain ⟨p, hp, e⟩ := List.mem_map.mp (List.mem_of_mem_take hx)
        exact hpL p hp e.symm
      · simp only [List.mem_cons, List.not_mem_nil, or_false] at hx
        rcases hx with rfl | rfl
        · unfold shortsb at hs
          rw [hxs] at hs
          exact shortb_short (List.all_eq_true.mp hs y hy)
        · cases hxs
    · obtain ⟨p, hp, e⟩ := List.mem_map.mp (List.mem_of_mem_drop hx)
      exact hpL p hp e.symm
end Q1

set_option Elab.async false
set_option maxRecDepth 100000
set_option maxHeartbeats 4000000
namespace Q1
open PySem L2 LamX PyProof.Rows
/-- the lists while bent marks are laid -/
structure Bm (H0 : Hp) (a ff lo : Addr) (ps : List (Str × D)) (mv : V) (n : Nat) (rs : List (D × Nat)) (ds : List D) (H : Hp) : Prop where
  sm : SameS a H0 H
  nf : H0 ff = none
  nl : H0 lo = none
  ne : ff ≠ lo
  rm : Rep (fun b => b ≠ a ∧ b ≠ ff ∧ b ≠ lo) H (.lst (ps.map pairL)) mv
  rf : ∃ vs, H ff = some (.lst vs) ∧ Reps (fun b => b ≠ a ∧ b ≠ ff ∧ b ≠ lo) H (rs.map bentD) vs
  ro : ∃ vs, H lo = some (.lst vs) ∧ Reps (fun b => b ≠ a ∧ b ≠ ff ∧ b ≠ lo) H ds vs
  st : Strm H a n
section
variable {H0 H H' : Hp} {a ff lo : Addr} {ps : List (Str × D)} {mv : V} {n k : Nat} {rs : List (D × Nat)} {ds es : List D} {u : List V}
theorem Bm.same (x : Bm H0 a ff lo ps mv n rs ds H) (s : Same H H') : Bm H0 a ff lo ps mv n rs ds H' := by
  obtain ⟨v1, h1, h2⟩ := x.rf
  obtain ⟨v2, h3, h4⟩ := x.ro
  exact ⟨x.sm.trans (SameS.of s), x.nf, x.nl, x.ne, x.rm.same s, ⟨v1, s _ _ h1, h2.same s⟩, ⟨v2, s _ _ h3, h4.same s⟩, x.st.same s⟩
theorem Bm.fa (x : Bm H0 a ff lo ps mv n rs ds H) (hu : H0 a = some (.lst u)) : ff ≠ a ∧ lo ≠ a := by
  have h1 := x.nf
  have h2 := x.nl
  exact ⟨fun z => (by rw [z, hu] at h1; cases h1), fun z => (by rw [z, hu] at h2; cases h2)⟩
theorem Bm.step (x : Bm H0 a ff lo ps mv n rs ds H) (hu : H0 a = some (.lst u)) (s : SameS a H H') (t : Strm H' a k) : Bm H0 a ff lo ps mv k rs ds H' := by
  obtain ⟨v1, h1, h2⟩ := x.rf
  obtain ⟨v2, h3, h4⟩ := x.ro
  obtain ⟨u1, hu1⟩ := x.st.lst
  obtain ⟨f1, f2⟩ := x.fa hu
  have st : Stay (fun b => b ≠ a ∧ b ≠ ff ∧ b ≠ lo) H H' := s.stay hu1 fun z => z.1 rfl
  exact ⟨x.sm.trans s, x.nf, x.nl, x.ne, Rep.mono (fun _ z => z) st x.rm, ⟨v1, s _ _ f1 h1, Reps.mono (fun _ z => z) st h2⟩, ⟨v2, s _ _ f2 h3, Reps.mono (fun _ z => z) st h4⟩, t⟩
theorem Bm.hS (x : Bm H0 a ff lo ps mv n rs ds H) : ∀ p, H p = none → p ≠ a ∧ p ≠ ff ∧ p ≠ lo := fun p hp => by
  obtain ⟨v1, h1, _⟩ := x.rf
  obtain ⟨v2, h3, _⟩ := x.ro
  obtain ⟨u1, hu1⟩ := x.st.lst
  exact ⟨fun z => (by rw [z, hu1] at hp; cases hp), fun z => (by rw [z, h1] at hp; cases hp), fun z => (by rw [z, h3] at hp; cases hp)⟩
theorem Bm.apO (x : Bm H0 a ff lo ps mv n rs ds H) (hu : H0 a = some (.lst u)) {vs us : List V} (hv : H lo = some (.lst vs)) (r : Reps (fun b => b ≠ a ∧ b ≠ ff ∧ b ≠ lo) H es us) : Bm H0 a ff lo ps mv n rs (ds ++ es) (upd H lo (.lst (vs ++ us))) := by
  obtain ⟨v1, h1, h2⟩ := x.rf
  obtain ⟨v2, h3, h4⟩ := x.ro
  rw [hv] at h3
  cases h3
  have st : Stay (fun b => b ≠ a ∧ b ≠ ff ∧ b ≠ lo) H (upd H lo (.lst (vs ++ us))) := stay_upd hv (nd_lst fun z => z.2.2 rfl)
  refine ⟨x.sm.at x.nl, x.nf, x.nl, x.ne, Rep.mono (fun _ z => z) st x.rm, ⟨v1, by rw [upd_ne x.ne]; exact h1, Reps.mono (fun _ z => z) st h2⟩, ⟨_, upd_same, Reps.append (Reps.mono (fun _ z => z) st h4) (Reps.mono (fun _ z => z) st r)⟩, x.st.at (x.fa hu).2⟩
theorem Bm.apF (x : Bm H0 a ff lo ps mv n rs ds H) (hu : H0 a = some (.lst u)) {vs : List V} {v : V} {r0 : D × Nat} (hv : H ff = some (.lst vs)) (r : Rep (fun b => b ≠ a ∧ b ≠ ff ∧ b ≠ lo) H (bentD r0) v) : Bm H0 a ff lo ps mv n (rs ++ [r0]) ds (upd H ff (.lst (vs ++ [v]))) := by
  obtain ⟨v1, h1, h2⟩ := x.rf
  obtain ⟨v2, h3, h4⟩ := x.ro
  rw [hv] at h1
  cases h1
  have st : Stay (fun b => b ≠ a ∧ b ≠ ff ∧ b ≠ lo) H (upd H ff (.lst (vs ++ [v]))) := stay_upd hv (nd_lst fun z => z.2.1 rfl)
  refine ⟨x.sm.at x.nf, x.nf, x.nl, x.ne, Rep.mono (fun _ z => z) st x.rm, ⟨_, upd_same, ?_⟩, ⟨v2, by rw [upd_ne (Ne.symm x.ne)]; exact h3, Reps.mono (fun _ z => z) st h4⟩, x.st.at (x.fa hu).1⟩
  rw [List.map_append]
  exact Reps.append (Reps.mono (fun _ z => z) st h2) (Reps.one (Rep.mono (fun _ z => z) st r))
end
section
variable {S : Addr → Prop} {σ : L2.St} {H : Hp} {te tf tl : TE} {d e : D} {ds es : List D} {K : PySem.W.Frag}
theorem mk_eqD {n : Nat} {Q : Bool → Hp → Prop} (h : MkE S te σ H d) (k : MkE S tf σ H e) (hd : d.ok n) (he : e.ok n) (hn : n ≤ 64) (q : ∀ H2, Same H H2 → Q (d.eq e) H2) : tTest (tOp (rEqD K) te tf) σ H Q := h H _ (Same.refl _) fun H2 _ s2 r => k H2 _ s2 fun H3 _ s3 r2 =>
  ⟨d.py, e.py, (r.same s3).dp hd, r2.dp he, D.ok_shaped hd hn, D.ok_shaped he hn, _, rfl, q H3 (s2.trans s3)⟩
theorem run_setNewT {own : List Nat} {g : TG} {i : Nat} {De : Ends} {t2 : TS} (hS : ∀ p, H p = none → S p) (h : MkE S tl σ H (.tup ds)) (hlen : es.length = ds.length) (hsz : ds.length ≤ 1000)
    (he : ∀ (S' : Addr → Prop) (H1 : Hp) (j : Nat) (d e : D) (v : V), Same H H1 → (∀ p, H1 p = none → S' p) → (∀ b, S b → H b ≠ none → S' b) → ds[j]? = some d → es[j]? = some e → Rep S' H1 d v → ∀ Q' : L2.St → Hp → Prop, (∀ σ2, wipe σ2 own = wipe σ own → MkE S' te σ2 H1 e → Q' σ2 H1) → g v (wipe σ own) H1 Q')
    (k : ∀ H3 D0 zs, Same H H3 → H D0 = none → H3 D0 = some (.lst zs) → Reps (fun b => S b ∧ b ≠ D0) H3 es zs → t2 De (σ.set i (some (.ref D0))) H3) : tSeq (tAsg (tLc (iTup K tl) g tYes te own) (gName i)) t2 De σ H := run_lcT (Q := fun v H' => t2 De (σ.set i (some v)) H') hS h hlen hsz he k
end
theorem markS_none {o : D} (h : mark1 o = none) (acc : List Str) : markS acc o = none := by
  unfold markS
  rw [h]
theorem mark_dup {n : Str} (hn : isNameS n = true) {acc : List Str} (h : n ∈ acc) : markS acc (.lst [.str n, .str "they"]) = none := by
  have m : mark1 (.lst [.str n, .str "they"]) = some n := by
    show (if isNameS n && (D.str "they").isHand then some n else none) = some n
    rw [hn, show (D.str "they").isHand = true by decide +kernel]
    rfl
  unfold markS
  rw [m]
  show (if n ∈ acc then none else some (acc ++ [n])) = none
  rw [if_pos h]
section
variable {P : Program} {w : World} {K : PySem.W.Frag} {mg : Str → Option Value} {base : Heap}
/-! ### _law_bent_marks -/
abbrev sBentM : Stmt := top 39
abbrev nBentM : List Str := ["stream", "question", "marks", "found", "odds", "at", "odd", "here", "pair", "name", "hand"]
theorem scBentM : FnScope nBentM ["stream", "question"] (defScope sBentM) := ⟨rfl, rfl, rfl, by decide +kernel, rfl, by decide +kernel, by decide +kernel⟩
def spBentM : Sp := fun vs H Q _ => ∃ (S : Addr → Prop) (s r : Addr) (n : Nat) (ps : List (Str × D)) (cw cg : List (List (Str × Bool))), vs = [.ref s, .ref r] ∧ Strm H s n ∧ n + 1 < LIM ∧ Rep S H (qD ps cw cg) (.ref r) ∧ ¬ S s ∧ GoodQ ps cw cg ∧ 0 < ps.length ∧
  ∀ (H' : Hp) (x : Addr) (rs : List (D × Nat)), SameS s H H' → Strm H' s (n + 1) → Rep (fun _ => True) H' (.lst (rs.map bentD)) (.ref x) → (∀ r ∈ rs, BentM r) → rs.length ≤ 40 → Q (.ref x) H'
theorem ok_bentM (B : Bt mg) (N : Dn K mg "_law_bent_marks" sBentM ["stream", "question"]) (ND : Dn K mg "_law_draw" sDraw ["stream", "many"]) : FnOk P w K mg base CX0 2 N.f N.fd ["stream", "question"] spBentM := by
  have GD : FnOk P w K mg base CX0 1 ND.f ND.fd ["stream", "many"] spDraw := ok_draw B ND
  refine N.F.ok scBentM (fun vs H Q E h => ?_) (fun cdv A outer s H vs Q E hr h => ?_)
  · obtain ⟨S, s, r, n, ps, cw, cg, rfl, _⟩ := h
    rfl
  · obtain ⟨S, a, r, n, ps, cw, cg, rfl, hs, hn, hq, hS, g, hp0, k⟩ := h
    refine ⟨_, pss_cons (ps_setLc (i := 2) (own := [("pair", 8)]) (g := gName 8) (tt := tYes) (te := tCB (rListOf K) (tCons (tVar 8) tNil)) (by rfl) scBentM.nd rfl rfl (sw_true rfl rfl rfl (by decide +kernel)) (pi_list (pe_ix ix_tup (pv 1) pe_int (fun _ _ => rfl))) (blkOk_by (own := [("pair", 8)]) (N := nBentM) (sc := defScope sBentM) (by decide +kernel)) (fun _ _ _ _ _ => pg_name (i := 8) scBentM.nd rfl (Or.inl rfl)) (fun _ _ _ _ _ => pts_nil)
          (fun _ _ _ _ _ => pe_callTy call_listOf (by rfl) B.lst PyProof.Rows.boot_list (pa_cons (pv 8) pa_nil)))
      (pss_cons (ps_setLc (i := 3) (own := [("odd", 6)]) (g := gName 6) (tt := tYes) (te := tTup (tCons (tVar 6) (tCons (tC (.int 0)) tNil))) (by rfl) scBentM.nd rfl rfl (sw_true rfl rfl rfl (by decide +kernel)) (pi_tup (pe_tup (pa_cons pe_non (pa_cons pe_int (pa_cons pe_str (pa_cons pe_dnewK (pa_cons pe_bl pa_nil))))))) (blkOk_by (own := [("odd", 6)]) (N := nBentM) (sc := defScope sBentM) (by decide +kernel)) (fun _ _ _ _ _ => pg_name (i := 6) scBentM.nd rfl (Or.inl rfl)) (fun _ _ _ _ _ => pts_nil)
          (fun _ _ _ _ _ => pe_tup (pa_cons (pv 6) (pa_cons pe_int pa_nil))))
      (pss_cons (ps_set (i := 4) scBentM.nd rfl (Or.inl rfl) (pe_lst (pa_cons pe_non (pa_cons pe_int (pa_cons pe_str (pa_cons (pe_lst pa_nil) (pa_cons (pe_lst (pa_cons pe_str pa_nil)) (pa_cons (pe_lst (pa_cons pe_str (pa_cons pe_str (pa_cons pe_int pa_nil)))) (pa_cons (pe_lst (pa_cons pe_str (pa_cons pe_str pa_nil))) (pa_cons (pe_lst (pa_cons pe_str (pa_cons pe_str pa_nil))) (pa_cons (pe_lst (pa_cons pe_str (pa_cons pe_str pa_nil))) (pa_cons (pe_lst (pa_cons pe_int (pa_cons pe_str pa_nil))) pa_nil))))))))))))
      (pss_cons (ps_expr (pe_bm PySem.F.plainAttrs_list PySem.F.slot_list_extend PySem.F.type_list_extend mt_extend (pv 4) (pa_cons (pe_lst (pa_cons (pe_lst (pa_cons pe_str (pa_cons pe_str pa_nil))) (pa_cons (pe_lst (pa_cons pe_str (pa_cons pe_non pa_nil))) (pa_cons (pe_lst (pa_cons pe_str (pa_cons (pe_tup (pa_cons pe_int (pa_cons pe_int pa_nil))) pa_nil))) (pa_cons (pe_lst (pa_cons pe_str (pa_cons (pe_tup (pa_cons pe_int (pa_cons pe_int pa_nil))) pa_nil))) (pa_cons (pe_lst (pa_cons pe_str (pa_cons (pe_tup (pa_cons pe_int (pa_cons pe_int pa_nil))) pa_nil))) (pa_cons (pe_lst (pa_cons pe_str (pa_cons (pe_tup (pa_cons pe_int (pa_cons pe_int (pa_cons pe_int pa_nil)))) pa_nil))) pa_nil))))))) pa_nil)))
      (pss_cons (ps_expr (pe_bm PySem.F.plainAttrs_list PySem.F.slot_list_extend PySem.F.type_list_extend mt_extend (pv 4) (pa_cons (pe_lst (pa_cons (pe_lst (pa_cons pe_str (pa_cons (pe_tup (pa_cons pe_bl (pa_cons pe_int pa_nil))) pa_nil))) (pa_cons (pe_lst (pa_cons pe_str (pa_cons (pe_tup (pa_cons pe_str (pa_cons pe_int pa_nil))) pa_nil))) (pa_cons (pe_lst (pa_cons pe_str (pa_cons (pe_tup (pa_cons pe_int (pa_cons pe_non pa_nil))) pa_nil))) (pa_cons (pe_lst (pa_cons pe_str (pa_cons (pe_lst pa_nil) pa_nil))) (pa_cons (pe_lst (pa_cons (pe_lst (pa_cons pe_str pa_nil)) (pa_cons pe_str pa_nil))) (pa_cons (pe_lst (pa_cons pe_str (pa_cons pe_str pa_nil))) pa_nil))))))) pa_nil)))
      (pss_cons (ps_expr (pe_bm PySem.F.plainAttrs_list PySem.F.slot_list_extend PySem.F.type_list_extend mt_extend (pv 4) (pa_cons
          (pe_lc (own := [("name", 9), ("hand", 10)]) (g := gSeq K 2 (gCons (gName 9) (gCons (gName 10) gNil))) (tt := tYes) (te := tLst (tCons (tVar 9) (tCons (tC (.str "they")) tNil))) rfl scBentM.nd (pi_list (pe_slice sl_list (pv 2) po_none (po_some pe_int))) (blkOk_by (own := [("name", 9), ("hand", 10)]) (N := nBentM) (sc := defScope sBentM) (by decide +kernel))
            (fun _ _ _ _ _ => pg_seq (by rfl) (pgs_cons (pg_name (i := 9) scBentM.nd (by rfl) (Or.inl (by rfl)) (by exact .inr rfl)) (pgs_cons (pg_name (i := 10) scBentM.nd (by rfl) (Or.inl (by rfl)) (by exact .inr rfl)) pgs_nil))) (fun _ _ _ _ _ => pts_nil) (fun _ _ _ _ _ => pe_lst (pa_cons (pv 9) (pa_cons pe_str pa_nil)))) pa_nil)))
      (pss_cons (ps_set (i := 5) scBentM.nd rfl (Or.inl rfl) (pe_call GD hr (by rfl) ND.g ND.F.kp ND.b .nil pass0 (pa_cons (pv 0) (pa_cons (pe_op op_add (pe_callB call_lenS (by rfl) B.len boot_len (pa_cons (pv 2) pa_nil)) pe_int) pa_nil))))
      (pss_cons (ps_for PassesOwn.never rfl (pi_list (pv 4)) (pg_name (i := 6) scBentM.nd rfl (Or.inl rfl))
        (pss_cons (ps_set (i := 7) scBentM.nd rfl (Or.inl rfl) (pe_ifExp (PW.pt (pw_and (pt_val (pe_callB call_isi (by rfl) B.isi PyProof.Rows.boot_isinstance (pa_cons (pv 6) (pa_cons (gt B.lst PyProof.Rows.boot_list) pa_nil))) (fun _ => rfl)) (pw_and1 (pt_cmpR (op_eqD hr.units) (pe_slice sl_list (pv 6) po_none (po_some pe_int)) (pe_lst (pa_cons (pe_ix ix_list (pe_ix ix_list (pv 2) pe_int (fun _ _ => rfl)) pe_int (fun _ _ => rfl)) pa_nil)) (nomark _)))))
            (pe_callB call_lenS (by rfl) B.len boot_len (pa_cons (pv 2) pa_nil)) (pv 5)))
        (pss_one (ps_expr (pe_bm PySem.F.plainAttrs_list PySem.F.slot_list_append PySem.F.type_list_append mt_append (pv 3) (pa_cons (pe_tup (pa_cons (pe_op op_cat (pe_op op_cat (pe_slice sl_list (pv 2) po_none (po_some (pv 7))) (pe_lst (pa_cons (pv 6) (pa_cons pe_non pa_nil)))) (pe_slice sl_list (pv 2) (po_some (pv 7)) po_none)) (pa_cons (pv 7) pa_nil))) pa_nil))))))
      (pss_one (ps_ret (pv 3)))))))))), ?_⟩
    obtain ⟨u0, hu0⟩ := hs.lst
    have hSa : ∀ p, H p = none → p ≠ a := fun p hp z => by rw [z, hu0] at hp; cases hp
    have hqA : Rep (fun b => b ≠ a) H (qD ps cw cg) (.ref r) := Rep.mono (fun b sb => fun (z : b = a) => hS (z ▸ sb)) (fun _ _ e _ => e) hq
    have gpl := g.pl
    refine run_set (S := fun b => b ≠ a) (d := .lst (ps.map pairL)) ?_ fun H1 mv s1 rm1 => ?_
    · refine mk_lcL (ds := ps.map pairD) (es := ps.map pairL) hSa (mk_ixT (d := .lst (ps.map pairD)) (mk_var rfl hqA) mk_int (at_nat (j := 0) rfl)) (by rw [List.length_map, List.length_map]) (by rw [List.length_map]; omega) fun S' H1 j d e v s1 hS' hC hd he rv Q' hQ => ?_
      rw [List.getElem?_map] at hd he
      cases hp : ps[j]? with
      | none => rw [hp] at hd; cases hd
      | some p =>
        rw [hp] at hd he
        cases hd
        cases he
        exact hQ _ rfl (mk_listOf hS' (mk_var rfl rv) rfl)
    have hS1 : ∀ p, H1 p = none → p ≠ a := fun p hp => hSa p (none_back s1 hp)
    refine run_setNewT (S := fun b => b ≠ a) (ds := odds5) (es := (odds5.map fun o => (o, 0)).map bentD) hS1 ?_ rfl (by decide) (fun S' H2 j d e v s2 hS' hC hd he rv Q' hQ => ?_) fun H2 ff zf s2 nf hff rf => ?_
    · exact mk_tup (mkA_cons mk_non (mkA_cons mk_int (mkA_cons mk_str (mkA_cons mk_dnew (mkA_cons mk_bl mkA_nil)))))
    · rw [List.map_map, List.getElem?_map, hd] at he
      cases he
      exact hQ _ rfl (mk_tup (mkA_cons (mk_var rfl rv) (mkA_cons mk_int mkA_nil)))
    have nfH : H ff = none := none_back s1 nf
    have hS2 : ∀ p, H2 p = none → p ≠ a ∧ p ≠ ff := fun p hp => ⟨hS1 p (none_back s2 hp), fun z => by rw [z, hff] at hp; cases hp⟩
    have rm2 : Rep (fun b => b ≠ a ∧ b ≠ ff) H2 (.lst (ps.map pairL)) mv := Rep.mono (fun b z => ⟨z.1, fun q => z.2 (q ▸ nf)⟩) (stay_of s2) rm1.here
    refine run_setL (S := fun b => b ≠ a ∧ b ≠ ff) (ds := oddsM) ?_ rfl fun H3 vo s3 ro lo hlo => ?_
    · exact mkA_cons mk_non (mkA_cons mk_int (mkA_cons mk_str (mkA_cons (mk_lst hS2 mkA_nil) (mkA_cons (mk_lst hS2 (mkA_cons mk_str mkA_nil)) (mkA_cons (mk_lst hS2 (mkA_cons mk_str (mkA_cons mk_str (mkA_cons mk_int mkA_nil)))) (mkA_cons (mk_lst hS2 (mkA_cons mk_str (mkA_cons mk_str mkA_nil))) (mkA_cons (mk_lst hS2 (mkA_cons mk_str (mkA_cons mk_str mkA_nil))) (mkA_cons (mk_lst hS2 (mkA_cons mk_str (mkA_cons mk_str mkA_nil))) (mkA_cons (mk_lst hS2 (mkA_cons mk_int (mkA_cons mk_str mkA_nil))) mkA_nil)))))))))
    have nlH : H lo = none := none_back ((s1.trans s2).trans s3) hlo
    have nel : ff ≠ lo := fun z => by rw [← z, s3 _ _ hff] at hlo; cases hlo
    have s4 : Same H3 (upd H3 lo (.lst vo)) := Same.new hlo
    have up : ∀ {d : D} {v : V}, Rep (fun b => b ≠ a ∧ b ≠ ff) H3 d v → Rep (fun b => b ≠ a ∧ b ≠ ff ∧ b ≠ lo) (upd H3 lo (.lst vo)) d v := fun r => Rep.mono (fun b z => ⟨z.1.1, z.1.2, fun q => z.2 (q ▸ hlo)⟩) (stay_of s4) r.here
    have ups : ∀ {d : List D} {v : List V}, Reps (fun b => b ≠ a ∧ b ≠ ff) H3 d v → Reps (fun b => b ≠ a ∧ b ≠ ff ∧ b ≠ lo) (upd H3 lo (.lst vo)) d v := fun r => Reps.mono (fun b z => ⟨z.1.1, z.1.2, fun q => z.2 (q ▸ hlo)⟩) (stay_of s4) r.here
    have x4 : Bm H a ff lo ps mv n (odds5.map fun o => (o, 0)) oddsM (upd H3 lo (.lst vo)) :=
      ⟨SameS.of (((s1.trans s2).trans s3).trans s4), nfH, nlH, nel, up (rm2.same s3), ⟨zf, s4 _ _ (s3 _ _ hff), ups (rf.same s3)⟩, ⟨vo, upd_same, ups ro⟩, hs.same (((s1.trans s2).trans s3).trans s4)⟩
    generalize upd H3 lo (.lst vo) = H4 at x4 ⊢
    have hS4 := x4.hS
    obtain ⟨v4, hv4, rv4⟩ := id x4.ro
    refine run_extend (S := fun b => b ≠ a ∧ b ≠ ff ∧ b ≠ lo) (i := 4) (ds := oddsM2) rfl hv4 ?_ (by rw [rv4.length]; show 10 + 6 ≤ 1000; decide) fun H5 u5 s5 r5 => ?_
    · exact mk_lst hS4 (mkA_cons (mk_lst hS4 (mkA_cons mk_str (mkA_cons mk_str mkA_nil))) (mkA_cons (mk_lst hS4 (mkA_cons mk_str (mkA_cons mk_non mkA_nil))) (mkA_cons (mk_lst hS4 (mkA_cons mk_str (mkA_cons (mk_tup (mkA_cons mk_int (mkA_cons mk_int mkA_nil))) mkA_nil))) (mkA_cons (mk_lst hS4 (mkA_cons mk_str (mkA_cons (mk_tup (mkA_cons mk_int (mkA_cons mk_int mkA_nil))) mkA_nil))) (mkA_cons (mk_lst hS4 (mkA_cons mk_str (mkA_cons (mk_tup (mkA_cons mk_int (mkA_cons mk_int mkA_nil))) mkA_nil))) (mkA_cons (mk_lst hS4 (mkA_cons mk_str (mkA_cons (mk_tup (mkA_cons mk_int (mkA_cons mk_int (mkA_cons mk_int mkA_nil)))) mkA_nil))) mkA_nil))))))
    have x5 := (x4.same s5).apO hu0 (s5 _ _ hv4) r5
    generalize upd H5 lo (.lst (v4 ++ u5)) = H6 at x5 ⊢
    have hS6 := x5.hS
    obtain ⟨v6, hv6, rv6⟩ := id x5.ro
    refine run_extend (S := fun b => b ≠ a ∧ b ≠ ff ∧ b ≠ lo) (i := 4) (ds := oddsM3) rfl hv6 ?_ (by rw [rv6.length]; show 16 + 6 ≤ 1000; decide) fun H7 u7 s7 r7 => ?_
    · exact mk_lst hS6 (mkA_cons (mk_lst hS6 (mkA_cons mk_str (mkA_cons (mk_tup (mkA_cons mk_bl (mkA_cons mk_int mkA_nil))) mkA_nil))) (mkA_cons (mk_lst hS6 (mkA_cons mk_str (mkA_cons (mk_tup (mkA_cons mk_str (mkA_cons mk_int mkA_nil))) mkA_nil))) (mkA_cons (mk_lst hS6 (mkA_cons mk_str (mkA_cons (mk_tup (mkA_cons mk_int (mkA_cons mk_non mkA_nil))) mkA_nil))) (mkA_cons (mk_lst hS6 (mkA_cons mk_str (mkA_cons (mk_lst hS6 mkA_nil) mkA_nil))) (mkA_cons (mk_lst hS6 (mkA_cons (mk_lst hS6 (mkA_cons mk_str mkA_nil)) (mkA_cons mk_str mkA_nil))) (mkA_cons (mk_lst hS6 (mkA_cons mk_str (mkA_cons mk_str mkA_nil))) mkA_nil))))))
    have x7 := (x5.same s7).apO hu0 (s7 _ _ hv6) r7
    generalize upd H7 lo (.lst (v6 ++ u7)) = H8 at x7 ⊢
    have hS8 := x7.hS
    obtain ⟨v8, hv8, rv8⟩ := id x7.ro
    refine run_extend (S := fun b => b ≠ a ∧ b ≠ ff ∧ b ≠ lo) (i := 4) (ds := (ps.take 1).map fun p => D.lst [.str p.1, .str "they"]) rfl hv8 ?_ (by rw [rv8.length, List.length_map, List.length_take]; show 22 + min 1 ps.length ≤ 1000; omega) fun H9 u9 s9 r9 => ?_
    · refine mk_lcL (ds := (ps.map pairL).take 1) hS8 (mk_to (k := 1) hS8 (mk_var rfl x7.rm) mk_int) (by rw [List.length_map, List.length_take, List.length_take, List.length_map]) (by rw [List.length_take]; omega) fun S' H1 j d e v s1 hS' hC hd he rv Q' hQ => ?_
      rw [← List.map_take, List.getElem?_map] at hd
      rw [List.getElem?_map] at he
      cases hp : (ps.take 1)[j]? with
      | none => rw [hp] at hd; cases hd
      | some p =>
        rw [hp] at hd he
        cases hd
        cases he
        obtain ⟨t, _, rfl, _, ht, w1, _, rfl, q1, w2, _, rfl, q2, rfl⟩ := rv
        cases (show w1 = .str p.1 from q1)
        refine ⟨t, _, rfl, .inl (SqL.of ht), rfl, ?_⟩
        refine ⟨_, _, rfl, _, _, rfl, rfl, ?_⟩
        exact hQ _ rfl (mk_lst hS' (mkA_cons (mk_var (d := .str p.1) rfl rfl) (mkA_cons mk_str mkA_nil)))
    have x9 := (x7.same s9).apO hu0 (s9 _ _ hv8) r9
    generalize upd H9 lo (.lst (v8 ++ u9)) = H10 at x9 ⊢
    obtain ⟨p0, hp0e, hp0m⟩ : ∃ p0, ps[0]? = some p0 ∧ p0 ∈ ps := ⟨ps[0], List.getElem?_eq_getElem hp0, List.getElem_mem hp0⟩
    obtain ⟨lm, ms, rfl, _, hlm, rms⟩ := id x9.rm
    have hml := rms.length
    rw [List.length_map] at hml
    refine ⟨_, rfl, _, rfl, lm, ms, rfl, .inl (SqL.of hlm), _, _, rfl, rfl, a, n, ms.length + 1, rfl, x9.st, by omega, by omega, by omega, fun u d hd hs11 => ?_⟩
    have x11 := x9.step hu0 (SameS.refl H10).upd hs11
    refine tSeq_two (R := fun σ H' => (∃ o6 o7 o8 o9 o10, σ = [some (.ref a), some (.ref r), some (.ref lm), some (.ref ff), some (.ref lo), some (.int (d : Nat)), o6, o7, o8, o9, o10]) ∧ Bm H a ff lo ps (.ref lm) (n + 1) (odds5.map fun o => (o, 0)) (oddsM ++ oddsM2 ++ oddsM3 ++ (ps.take 1).map fun p => D.lst [.str p.1, .str "they"]) H') (fun D' hD => hD _ _ ⟨⟨_, _, _, _, _, rfl⟩, x11⟩) ?_
    clear x11
    rintro _ H11 ⟨⟨o6, o7, o8, o9, o10, rfl⟩, x11⟩
    obtain ⟨vl, hvl, rvl⟩ := id x11.ro
    refine ⟨_, rfl, lo, rfl, ⟨_, SqL.of hvl⟩, for_list (K := K) (a := lo) (xs := vl) (fun i σ H' => (∃ o6 o7 o8 o9 o10, σ = [some (.ref a), some (.ref r), some (.ref lm), some (.ref ff), some (.ref lo), some (.int (d : Nat)), o6, o7, o8, o9, o10]) ∧ H' lo = some (.lst vl) ∧ ∃ rs, Bm H a ff lo ps (.ref lm) (n + 1) rs (oddsM ++ oddsM2 ++ oddsM3 ++ (ps.take 1).map fun p => D.lst [.str p.1, .str "they"]) H' ∧ (∀ r ∈ rs, BentM r) ∧ rs.length = 5 + i)
      ⟨⟨_, _, _, _, _, rfl⟩, hvl, _, x11, fun r hr => ?_, rfl⟩ (fun i σ H' _ y => SqL.of y.2.1) ?_ ?_⟩
    · obtain ⟨o, ho, rfl⟩ := List.mem_map.mp hr
      exact bent5 ho
    · rintro i v σ H12 hv ⟨⟨o6, o7, o8, o9, o10, rfl⟩, hlo12, rs, x12, hrs, hrl⟩
      have hS12 := x12.hS
      obtain ⟨vl2, hvl2, rvl2⟩ := id x12.ro
      rw [hlo12] at hvl2
      cases hvl2
      obtain ⟨o, ho, rov⟩ := rvl2.get hv
      have hom := List.mem_of_getElem? ho
      have hil : i < vl.length := (List.getElem?_eq_some_iff.mp hv).1
      have hvll := rvl2.length
      have htl : ((ps.take 1).map fun p => D.lst [.str p.1, .str "they"]).length ≤ 1 := by rw [List.length_map, List.length_take]; exact Nat.min_le_left _ _
      have h22 : (oddsM ++ oddsM2 ++ oddsM3).length = 22 := rfl
      rw [List.length_append, h22] at hvll
      have hpq := g.nm p0.1 (List.mem_map_of_mem hp0m)
      obtain ⟨hN, c1, c2, c3, c4, c5⟩ : ∃ hN : Nat, hN ≤ ps.length ∧ markS ((ps.map Prod.fst).take hN) o = none ∧ shortsb o = true ∧ (∀ xs, o = .lst xs → (D.lst (xs.take 1)).ok 4 ∧ hN = if (D.lst (xs.take 1)).eq (.lst [.str p0.1]) = true then ps.length else d) ∧ (o.isLst = false → hN = d) := by
        rcases List.mem_append.mp hom with hm | hm
        · obtain ⟨b1, b2, b3, b4⟩ := oddsM_bad o hm
          refine ⟨d, by omega, markS_none b1 _, b2, fun xs e => ?_, fun _ => rfl⟩
          subst e
          refine ⟨okb_ok b3, ?_⟩
          have b5 : (D.lst (xs.take 1)).eq (.lst [.str p0.1]) = false := b4 p0.1 hpq
          rw [b5]
          rfl
        · obtain ⟨p, hp, rfl⟩ := List.mem_map.mp hm
          have hpe : p = p0 := by
            have e1 : ps.take 1 = [p0] := by
              cases ps with
              | nil => cases hp0e
              | cons q qs => cases (show some q = some p0 from hp0e); rfl
            rw [e1] at hp
            simpa using hp
          subst hpe
          refine ⟨ps.length, Nat.le_refl _, mark_dup (qNames_name _ hpq) ?_, ?_, fun xs e => ?_, fun h => (nomatch h)⟩
          · rw [show ps.length = (ps.map Prod.fst).length from (List.length_map _).symm, List.take_length]
            exact List.mem_map_of_mem hp0m
          · have := qNames_nice hpq
            show (shortb (.str p.1) && (shortb (.str "they") && true)) = true
            rw [show shortb (.str p.1) = true from decide_eq_true (show p.1.cps.size ≤ 100 by omega)]
            decide +kernel
          · cases e
            have okp : (D.lst [D.str p.1]).ok 4 := ⟨ok_str (qNames_ok _ hpq), trivial⟩
            refine ⟨okp, ?_⟩
            have e3 : (D.lst [D.str p.1]).eq (.lst [.str p.1]) = true := eqv_refl okp
            show ps.length = if (D.lst [D.str p.1]).eq (.lst [.str p.1]) = true then ps.length else d
            rw [e3]
            rfl
      have okP : (D.lst [D.str p0.1]).ok 4 := ⟨ok_str (qNames_ok _ hpq), trivial⟩
      refine tIf_two (R := fun v H' => v = .int (hN : Nat) ∧ Same H12 H') (fun Q' hQ => ?_) ?_
      · refine ⟨_, rfl, v, .ty "list", _, _, _, rfl, .ty "list", rov.ty (K := K), kit_lst o, _, rfl, ?_⟩
        cases hol : o.isLst with
        | false =>
          refine iteF (iteF ⟨_, rfl, ?_⟩)
          rw [c5 hol] at hQ
          exact hQ _ _ ⟨rfl, Same.refl _⟩
        | true =>
          cases o with
          | lst xs =>
            obtain ⟨k1, k2⟩ := c4 xs rfl
            refine iteT ?_
            refine mk_eqD (S := fun b => b ≠ a ∧ b ≠ ff ∧ b ≠ lo) (n := 4) (d := .lst (xs.take 1)) (e := .lst [.str p0.1]) (mk_to (k := 1) hS12 (mk_var rfl rov) mk_int) (mk_lst hS12 (mkA_cons (mk_ixL (d := .str p0.1) (mk_ixL (d := pairL p0) (mk_var rfl x12.rm) mk_int (at_nat (j := 0) (by rw [List.getElem?_map, hp0e]; rfl))) mk_int (at_nat (j := 0) rfl)) mkA_nil)) k1 okP (by decide) fun H13 s13 => ?_
            cases hb : (D.lst (xs.take 1)).eq (.lst [.str p0.1]) with
            | true =>
              rw [hb] at k2
              refine iteT ?_
              have x13 := x12.same s13
              obtain ⟨lm2, ms2, e2, _, hlm2, rms2⟩ := id x13.rm
              cases e2
              have hml2 := rms2.length
              rw [List.length_map] at hml2
              refine ⟨_, rfl, lm, ms2, rfl, .inl (SqL.of hlm2), ?_⟩
              rw [hml2]
              have k2 : hN = ps.length := k2
              rw [k2] at hQ
              exact hQ _ _ ⟨rfl, s13⟩
            | false =>
              rw [hb] at k2
              have k2 : hN = d := k2
              refine iteF ⟨_, rfl, ?_⟩
              rw [k2] at hQ
              exact hQ _ _ ⟨rfl, s13⟩
          | _ => cases hol
      · rintro _ H13 ⟨rfl, s13⟩
        have x13 := x12.same s13
        have rov13 := rov.same s13
        have hS13 := x13.hS
        obtain ⟨vf, hvf, rvf⟩ := id x13.rf
        refine run_append (S := fun b => b ≠ a ∧ b ≠ ff ∧ b ≠ lo) (i := 3) (d := bentD (.lst ((ps.map pairL).take hN ++ [o, .non] ++ (ps.map pairL).drop hN), hN)) rfl hvf ?_ (by rw [rvf.length, List.length_map]; omega) fun H14 v14 s14 r14 => ?_
        · refine mk_tup (mkA_cons (mk_cat hS13 (mk_cat hS13 (mk_to (k := hN) hS13 (mk_var rfl x13.rm) (mk_var (d := .int (hN : Nat)) rfl rfl)) (mk_lst hS13 (mkA_cons (mk_var rfl rov13) (mkA_cons mk_non mkA_nil))) ?_) (mk_from (k := hN) hS13 (mk_var rfl x13.rm) (mk_var (d := .int (hN : Nat)) rfl rfl)) ?_) (mkA_cons (mk_var (d := .int (hN : Nat)) rfl rfl) mkA_nil))
          · simp only [List.length_take, List.length_map, List.length_cons, List.length_nil]
            omega
          · simp only [List.length_append, List.length_take, List.length_drop, List.length_map, List.length_cons, List.length_nil]
            omega
        · have x14 := (x13.same s14).apF hu0 (s14 _ _ hvf) r14
          refine ⟨⟨_, _, _, _, _, rfl⟩, ?_, _, x14, fun r hr => ?_, by rw [List.length_append, hrl]; rfl⟩
          · rw [upd_ne (Ne.symm x12.ne)]
            exact s14 _ _ (s13 _ _ hlo12)
          · rcases List.mem_append.mp hr with hr | hr
            · exact hrs r hr
            · rw [List.mem_singleton.mp hr]
              exact bentM_at g c1 c2 c3
    · rintro σ H12 ⟨⟨o6, o7, o8, o9, o10, rfl⟩, hlo12, rs, x12, hrs, hrl⟩
      obtain ⟨vf, hvf, rvf⟩ := id x12.rf
      have hvll := rvl.length
      have htl : ((ps.take 1).map fun p => D.lst [.str p.1, .str "they"]).length ≤ 1 := by rw [List.length_map, List.length_take]; exact Nat.min_le_left _ _
      have h22 : (oddsM ++ oddsM2 ++ oddsM3).length = 22 := rfl
      rw [List.length_append, h22] at hvll
      exact ⟨_, rfl, k H12 ff rs x12.sm x12.st ⟨ff, vf, rfl, trivial, hvf, Reps.mono (fun _ _ => trivial) (fun _ _ e _ => e) rvf⟩ hrs (by omega)⟩
end
end Q1

set_option Elab.async false
set_option maxRecDepth 100000
set_option maxHeartbeats 4000000
namespace Q1
open PySem L2 LamX PyProof.Rows
section
variable {S : Addr → Prop} {σ : L2.St} {H : Hp} {te tf tl : TE} {ta : TA} {d e : D} {ds es : List D} {K : PySem.W.Frag}
theorem run_par {i j : Nat} {De : Ends} {t2 : TS} (h : MkA S ta σ H [d, e]) (k : ∀ H2 v w, Same H H2 → Rep S H2 d v → Rep S H2 e w → t2 De ((σ.set i (some v)).set j (some w)) H2) : tSeq (tPar i j ta) t2 De σ H := h H _ (Same.refl _) fun H2 vs s r => by
  obtain ⟨v, _, rfl, r1, w, _, rfl, r2, rfl⟩ := r
  exact ⟨v, w, rfl, k H2 v w s r1 r2⟩
theorem run_ret {De : Ends} (h : MkE S te σ H d) (k : ∀ H2 v, Same H H2 → Rep S H2 d v → De.rt v H2) : tRet te De σ H := h H _ (Same.refl _) k
theorem run_setIfNe {n i : Nat} {De : Ends} {t2 : TS} {tx ty : TE} (h : MkE S te σ H d) (k : MkE S tf σ H e) (hd : d.ok n) (he : e.ok n) (hn : n ≤ 64) (hx : d.eq e = false) {c : D} (kx : MkE S tx σ H c) (q : ∀ H2 v, Same H H2 → Rep S H2 c v → t2 De (σ.set i (some v)) H2) : tSeq (tAsg (tIf (tTest (tOp (rNeD K) te tf)) tx ty) (gName i)) t2 De σ H :=
  mk_neD (Q := fun b H2 => if b = true then tx σ H2 (fun v H3 => t2 De (σ.set i (some v)) H3) else ty σ H2 (fun v H3 => t2 De (σ.set i (some v)) H3)) h k hd he hn fun H2 s2 => by
    rw [hx]
    exact iteT (kx H2 _ s2 fun H3 v s3 r => q H3 v (s2.trans s3) r)
end
def oddsW : List D := [.non, .int 5, .str "wish", .dic, .bl true]
def oddsC (m : Str) : List D := [.non, .int 5, .str "a", .dic, .lst [.str m], .lst [.tup [.str m]], .lst [.tup [.str m, .int 1]], .lst [.tup [.str m, .non]], .lst [.tup [.str m, .bl true, .bl true]], .lst [.tup [.str "n1", .bl true]]]
def oddsC2 (m : Str) : List D := [.lst [.tup [.str m, .bl true], .tup [.str m, .bl false]], .lst [.tup [.str m, .bl true], .tup [.str m, .bl true]], .lst [.tup [.int 5, .bl true]], .lst [.tup [.lst [.str m], .bl true]], .lst [.tup [.str m, .str "Yes"]]]
/-- what is no list of clauses, and the index of its first fault -/
def BentC (names : List Str) (r : D × Nat) : Prop := firstClause names r.1 = some r.2 ∧ ClausesIn r.1
theorem n1_no : ¬ ("n1" : Str) ∈ qNames := by decide +kernel
theorem lit_two {names : List Str} {m : Str} (hm : m ∈ names) (b c : Bool) : litsOf names (.lst [.tup [.str m, .bl b], .tup [.str m, .bl c]]) = none := by
  have l1 : ∀ x : Bool, lit1 names (.tup [.str m, .bl x]) = some (m, x) := fun x => by
    show (if m ∈ names then some (m, x) else none) = _
    rw [if_pos hm]
  show optFold (litS names) [.tup [.str m, .bl b], .tup [.str m, .bl c]] [] = none
  rw [optFold_cons]
  have e1 : litS names [] (.tup [.str m, .bl b]) = some [(m, b)] := by
    unfold litS
    rw [l1]
    rfl
  rw [e1]
  show optFold (litS names) [.tup [.str m, .bl c]] [(m, b)] = none
  rw [optFold_cons]
  have e2 : litS names [(m, b)] (.tup [.str m, .bl c]) = none := by
    unfold litS
    rw [l1]
    show (if m ∈ [m] then none else some _) = none
    rw [if_pos List.mem_cons_self]
  rw [e2]
theorem oddsC_bad {names : List Str} {m : Str} (hm : m ∈ names) (hn : ∀ x ∈ names, x ∈ qNames) : ∀ d ∈ oddsC m ++ oddsC2 m, litsOf names d = none ∧ d.small := fun d hd => by
  simp only [oddsC, oddsC2, List.mem_append, List.mem_cons, List.not_mem_nil, or_false] at hd
  rcases hd with (rfl | rfl | rfl | rfl | rfl | rfl | rfl | rfl | rfl | rfl) | (rfl | rfl | rfl | rfl | rfl)
  · exact ⟨rfl, trivial⟩
  · exact ⟨rfl, trivial⟩
  · exact ⟨rfl, trivial⟩
  · exact ⟨rfl, trivial⟩
  · exact ⟨rfl, by show 1 ≤ 1000; decide⟩
  · exact ⟨rfl, by show 1 ≤ 1000; decide⟩
  · exact ⟨rfl, by show 1 ≤ 1000; decide⟩
  · exact ⟨rfl, by show 1 ≤ 1000; decide⟩
  · exact ⟨rfl, by show 1 ≤ 1000; decide⟩
  · refine ⟨?_, by show 1 ≤ 1000; decide⟩
    have l1 : lit1 names (.tup [.str "n1", .bl true]) = none := by
      show (if ("n1" : Str) ∈ names then some (("n1" : Str), true) else none) = none
      rw [if_neg fun z => n1_no (hn _ z)]
    show optFold (litS names) [.tup [.str "n1", .bl true]] [] = none
    rw [optFold_cons]
    have e1 : litS names [] (.tup [.str "n1", .bl true]) = none := by
      unfold litS
      rw [l1]
    rw [e1]
  · exact ⟨lit_two hm _ _, by show 2 ≤ 1000; decide⟩
  · exact ⟨lit_two hm _ _, by show 2 ≤ 1000; decide⟩
  · exact ⟨rfl, by show 1 ≤ 1000; decide⟩
  · exact ⟨rfl, by show 1 ≤ 1000; decide⟩
  · exact ⟨rfl, by show 1 ≤ 1000; decide⟩
theorem bentW {names : List Str} {d : D} (h : d ∈ oddsW) : BentC names (d, 0) := by
  have hn : d.items? = none := by
    simp only [oddsW, List.mem_cons, List.not_mem_nil, or_false] at h
    rcases h with rfl | rfl | rfl | rfl | rfl <;> rfl
  refine ⟨by unfold firstClause; rw [show (d, 0).1 = d from rfl, hn], ?_, fun ds hd => ?_⟩
  · unfold D.small
    rw [show (d, 0).1 = d from rfl, hn]
    trivial
  · rw [show (d, 0).1 = d from rfl, hn] at hd
    cases hd
def bentCD (cs : List (List (Str × Bool))) (i : Nat) (o : D) : D := .lst ((cs.map litsD).take i ++ [o] ++ (cs.map litsD).drop i ++ [.non])
theorem bentC_at {names : List Str} {cs : List (List (Str × Bool))} (hc : ClOk names cs) (hl : cs.length ≤ 22) {i : Nat} (hi : i ≤ cs.length) {o : D} (ho : litsOf names o = none) (hs : o.small) : BentC names (bentCD cs i o, i) := by
  have hli : ((cs.map litsD).take i).length = i := by rw [List.length_take, List.length_map]; omega
  have f : optFold (clauseS names) (((cs.map litsD).take i ++ [o] ++ (cs.map litsD).drop i ++ [D.non]).take i) () = some () := by
    rw [List.append_assoc, List.append_assoc, List.take_left' hli, ← List.map_take]
    exact (clauses_loose (Looses.refl _) fun c h => ⟨(hc c (List.mem_of_mem_take h)).1, (hc c (List.mem_of_mem_take h)).2.1⟩).2
  have ga : ((cs.map litsD).take i ++ [o] ++ (cs.map litsD).drop i ++ [D.non])[i]? = some o := by
    rw [List.append_assoc, List.append_assoc, List.getElem?_append_right (by omega), hli, Nat.sub_self]
    rfl
  have no : clauseS names () o = none := by
    unfold clauseS
    rw [ho]
    rfl
  refine ⟨?_, ?_, fun ds hd x hx => ?_⟩
  · have := stopAt_some (f := clauseS names) 0 f ga no
    rw [Nat.zero_add] at this
    exact this
  · show (_ : List D).length ≤ 1000
    simp only [List.length_append, List.length_take, List.length_drop, List.length_map, List.length_cons, List.length_nil]
    omega
  · cases (show some _ = some ds from hd)
    have hcl : ∀ c ∈ cs, (litsD c).small := fun c h => by
      show (c.map litD).length ≤ 1000
      rw [List.length_map]
      have := (hc c h).2.2
      omega
    rcases List.mem_append.mp hx with hx | hx
    · rcases List.mem_append.mp hx with hx | hx
      · rcases List.mem_append.mp hx with hx | hx
        · obtain ⟨c, h, rfl⟩ := List.mem_map.mp (List.mem_of_mem_take hx)
          exact hcl c h
        · rw [List.mem_singleton.mp hx]
          exact hs
      · obtain ⟨c, h, rfl⟩ := List.mem_map.mp (List.mem_of_mem_drop hx)
        exact hcl c h
    · rw [List.mem_singleton.mp hx]
      trivial
section
variable {P : Program} {w : World} {K : PySem.W.Frag} {mg : Str → Option Value} {base : Heap}
/-! ### _law_bent_clauses -/
abbrev sBentC : Stmt := top 40
abbrev nBentC : List Str := ["stream", "question", "clauses", "found", "names", "one", "odds", "at", "odd", "name", "hand"]
theorem scBentC : FnScope nBentC ["stream", "question", "clauses"] (defScope sBentC) := ⟨rfl, rfl, rfl, by decide +kernel, rfl, by decide +kernel, by decide +kernel⟩
def spBentC : Sp := fun vs H Q _ => ∃ (S : Addr → Prop) (s r : Addr) (cv : V) (n : Nat) (ps : List (Str × D)) (cw cg cs : List (List (Str × Bool))), vs = [.ref s, .ref r, cv] ∧ Strm H s n ∧ n + 1 < LIM ∧ Rep S H (qD ps cw cg) (.ref r) ∧ ¬ S s ∧ GoodQ ps cw cg ∧ 0 < ps.length ∧ Rep S H (clausesD cs) cv ∧ InOrd (ps.map Prod.fst) cs ∧ cs.length ≤ 22 ∧
  ∀ (H' : Hp) (x : Addr) (rs : List (D × Nat)), SameS s H H' → Strm H' s (n + 1) → Rep (fun _ => True) H' (.lst (rs.map bentD)) (.ref x) → (∀ r ∈ rs, BentC (ps.map Prod.fst) r) → rs.length ≤ 40 → Q (.ref x) H'
theorem ok_bentC (B : Bt mg) (N : Dn K mg "_law_bent_clauses" sBentC ["stream", "question", "clauses"]) (ND : Dn K mg "_law_draw" sDraw ["stream", "many"]) : FnOk P w K mg base CX0 2 N.f N.fd ["stream", "question", "clauses"] spBentC := by
  have GD : FnOk P w K mg base CX0 1 ND.f ND.fd ["stream", "many"] spDraw := ok_draw B ND
  refine N.F.ok scBentC (fun vs H Q E h => ?_) (fun cdv A outer s H vs Q E hr h => ?_)
  · obtain ⟨S, s, r, cv, n, ps, cw, cg, cs, rfl, _⟩ := h
    rfl
  · obtain ⟨S, a, r, cv, n, ps, cw, cg, cs, rfl, hs, hn, hq, hS, g, hp0, hcv, hio, hcl, k⟩ := h
    refine ⟨_, pss_cons (ps_par (i := 3) (j := 4) (by rfl) scBentC.nd rfl rfl (by decide) rfl rfl (pa_cons
          (pe_lc (own := [("odd", 8)]) (g := gName 8) (tt := tYes) (te := tTup (tCons (tVar 8) (tCons (tC (.int 0)) tNil))) rfl scBentC.nd (pi_tup (pe_tup (pa_cons pe_non (pa_cons pe_int (pa_cons pe_str (pa_cons pe_dnewK (pa_cons pe_bl pa_nil))))))) (blkOk_by (own := [("odd", 8)]) (N := nBentC) (sc := defScope sBentC) (by decide +kernel)) (fun _ _ _ _ _ => pg_name (i := 8) scBentC.nd rfl (Or.inl rfl)) (fun _ _ _ _ _ => pts_nil) (fun _ _ _ _ _ => pe_tup (pa_cons (pv 8) (pa_cons pe_int pa_nil))))
          (pa_cons (pe_lc (own := [("name", 9), ("hand", 10)]) (g := gTup K 2 (gCons (gName 9) (gCons (gName 10) gNil))) (tt := tYes) (te := tVar 9) rfl scBentC.nd (pi_list (pe_ix ix_tup (pv 1) pe_int (fun _ _ => rfl))) (blkOk_by (own := [("name", 9), ("hand", 10)]) (N := nBentC) (sc := defScope sBentC) (by decide +kernel))
            (fun _ _ _ _ _ => pg_tup (by rfl) (pgs_cons (pg_name (i := 9) scBentC.nd (by rfl) (Or.inl (by rfl)) (by exact .inr rfl)) (pgs_cons (pg_name (i := 10) scBentC.nd (by rfl) (Or.inl (by rfl)) (by exact .inr rfl)) pgs_nil))) (fun _ _ _ _ _ => pts_nil) (fun _ _ _ _ _ => pv 9)) pa_nil)) (by rfl))
      (pss_cons (ps_set (i := 5) scBentC.nd rfl (Or.inl rfl) (pe_ifExp (pt_cmpR (op_neD hr.units) (pv 4) (pe_lst pa_nil) (nomark _)) (pe_ix ix_list (pv 4) pe_int (fun _ _ => rfl)) pe_str))
      (pss_cons (ps_set (i := 6) scBentC.nd rfl (Or.inl rfl) (pe_lst (pa_cons pe_non (pa_cons pe_int (pa_cons pe_str (pa_cons pe_dnewK (pa_cons (pe_lst (pa_cons (pv 5) pa_nil)) (pa_cons (pe_lst (pa_cons (pe_tup (pa_cons (pv 5) pa_nil)) pa_nil)) (pa_cons (pe_lst (pa_cons (pe_tup (pa_cons (pv 5) (pa_cons pe_int pa_nil))) pa_nil)) (pa_cons (pe_lst (pa_cons (pe_tup (pa_cons (pv 5) (pa_cons pe_non pa_nil))) pa_nil)) (pa_cons (pe_lst (pa_cons (pe_tup (pa_cons (pv 5) (pa_cons pe_bl (pa_cons pe_bl pa_nil)))) pa_nil)) (pa_cons (pe_lst (pa_cons (pe_tup (pa_cons pe_str (pa_cons pe_bl pa_nil))) pa_nil)) pa_nil))))))))))))
      (pss_cons (ps_expr (pe_bm PySem.F.plainAttrs_list PySem.F.slot_list_extend PySem.F.type_list_extend mt_extend (pv 6) (pa_cons (pe_lst (pa_cons (pe_lst (pa_cons (pe_tup (pa_cons (pv 5) (pa_cons pe_bl pa_nil))) (pa_cons (pe_tup (pa_cons (pv 5) (pa_cons pe_bl pa_nil))) pa_nil))) (pa_cons (pe_lst (pa_cons (pe_tup (pa_cons (pv 5) (pa_cons pe_bl pa_nil))) (pa_cons (pe_tup (pa_cons (pv 5) (pa_cons pe_bl pa_nil))) pa_nil))) (pa_cons (pe_lst (pa_cons (pe_tup (pa_cons pe_int (pa_cons pe_bl pa_nil))) pa_nil)) (pa_cons (pe_lst (pa_cons (pe_tup (pa_cons (pe_lst (pa_cons (pv 5) pa_nil)) (pa_cons pe_bl pa_nil))) pa_nil)) (pa_cons (pe_lst (pa_cons (pe_tup (pa_cons (pv 5) (pa_cons pe_str pa_nil))) pa_nil)) pa_nil)))))) pa_nil)))
      (pss_cons (ps_set (i := 7) scBentC.nd rfl (Or.inr rfl) (pe_call GD hr (by rfl) ND.g ND.F.kp ND.b .nil pass0 (pa_cons (pv 0) (pa_cons (pe_op op_add (pe_callB call_lenS (by rfl) B.len boot_len (pa_cons (pv 2) pa_nil)) pe_int) pa_nil))))
      (pss_one (ps_ret (pe_op op_cat (pv 3) (pe_lc (own := [("odd", 8)]) (g := gName 8) (tt := tYes) (te := tTup (tCons (tOp rCat (tOp rCat (tOp rCat (tSl (rSlL K) (tVar 2) tNoPart (tPart (tVar 7))) (tLst (tCons (tVar 8) tNil))) (tSl (rSlL K) (tVar 2) (tPart (tVar 7)) tNoPart)) (tLst (tCons (tC .non) tNil))) (tCons (tVar 7) tNil))) rfl scBentC.nd (pi_list (pv 6)) (blkOk_by (own := [("odd", 8)]) (N := nBentC) (sc := defScope sBentC) (by decide +kernel)) (fun _ _ _ _ _ => pg_name (i := 8) scBentC.nd rfl (Or.inl rfl)) (fun _ _ _ _ _ => pts_nil)
          (fun _ _ _ _ _ => pe_tup (pa_cons (pe_op op_cat (pe_op op_cat (pe_op op_cat (pe_slice sl_list (pv 2) po_none (po_some (pv 7))) (pe_lst (pa_cons (pv 8) pa_nil))) (pe_slice sl_list (pv 2) (po_some (pv 7)) po_none)) (pe_lst (pa_cons pe_non pa_nil))) (pa_cons (pv 7) pa_nil))))))))))), ?_⟩
    obtain ⟨u0, hu0⟩ := hs.lst
    have hSa : ∀ p, H p = none → p ≠ a := fun p hp z => by rw [z, hu0] at hp; cases hp
    have toA : ∀ {d : D} {v : V}, Rep S H d v → Rep (fun b => b ≠ a) H d v := fun r => Rep.mono (fun b sb => fun (z : b = a) => hS (z ▸ sb)) (fun _ _ e _ => e) r
    have hqA := toA hq
    have hcA := toA hcv
    have gpl := g.pl
    have hnl : (ps.map Prod.fst).length ≤ 13 := by rw [List.length_map]; exact g.pl
    obtain ⟨p0, hp0e, hp0m⟩ : ∃ p0, ps[0]? = some p0 ∧ p0 ∈ ps := ⟨ps[0], List.getElem?_eq_getElem hp0, List.getElem_mem hp0⟩
    refine run_par (S := fun b => b ≠ a) (d := .lst ((oddsW.map fun o => (o, 0)).map bentD)) (e := .lst (ps.map fun p => D.str p.1)) ?_ fun H1 fv nv s1 rf1 rn1 => ?_
    · refine mkA_cons (mk_lcT (ds := oddsW) hSa ?_ rfl (by decide) (fun S' H2 j d e v s2 hS' hC hd he rv Q' hQ => ?_)) (mkA_cons (mk_lcL (ds := ps.map pairD) hSa (mk_ixT (d := .lst (ps.map pairD)) (mk_var rfl hqA) mk_int (at_nat (j := 0) rfl)) (by rw [List.length_map, List.length_map]) (by rw [List.length_map]; omega) fun S' H2 j d e v s2 hS' hC hd he rv Q' hQ => ?_) mkA_nil)
      · exact mk_tup (mkA_cons mk_non (mkA_cons mk_int (mkA_cons mk_str (mkA_cons mk_dnew (mkA_cons mk_bl mkA_nil)))))
      · rw [List.map_map, List.getElem?_map, hd] at he
        cases he
        exact hQ _ rfl (mk_tup (mkA_cons (mk_var rfl rv) (mkA_cons mk_int mkA_nil)))
      · rw [List.getElem?_map] at hd he
        cases hp : ps[j]? with
        | none => rw [hp] at hd; cases hd
        | some p =>
          rw [hp] at hd he
          cases hd
          cases he
          obtain ⟨t, _, rfl, ht, w1, _, rfl, q1, w2, _, rfl, q2, rfl⟩ := rv
          cases (show w1 = .str p.1 from q1)
          refine ⟨t, _, rfl, SqT.of ht, rfl, ?_⟩
          refine ⟨_, _, rfl, _, _, rfl, rfl, ?_⟩
          exact hQ _ rfl (mk_var (d := .str p.1) rfl rfl)
    have hS1 : ∀ p, H1 p = none → p ≠ a := fun p hp => hSa p (none_back s1 hp)
    have okn : (D.lst (ps.map fun p => D.str p.1)).ok 4 := oks_mem (n := 3) fun d hd => by
      obtain ⟨p, hp, rfl⟩ := List.mem_map.mp hd
      exact ok_str (qNames_ok _ (g.nm _ (List.mem_map_of_mem hp)))
    have ne0 : (D.lst (ps.map fun p => D.str p.1)).eq (.lst []) = false := by
      rw [eq_nil]
      cases ps with
      | nil => cases hp0e
      | cons _ _ => rfl
    refine run_setIfNe (S := fun b => b ≠ a) (n := 4) (c := .str p0.1) (mk_var rfl rn1) (mk_lst hS1 mkA_nil) okn trivial (by decide) ne0 (mk_ixL (d := .str p0.1) (mk_var rfl rn1) mk_int (at_nat (j := 0) (by rw [List.getElem?_map, hp0e]; rfl))) fun H2 ov s2 ro2 => ?_
    cases (show ov = .str p0.1 from ro2)
    have hS2 : ∀ p, H2 p = none → p ≠ a := fun p hp => hS1 p (none_back s2 hp)
    have one : ∀ {S : Addr → Prop} {H : Hp}, Rep S H (.str p0.1) (.str p0.1) := rfl
    refine run_setL (S := fun b => b ≠ a) (ds := oddsC p0.1) ?_ rfl fun H3 vo s3 ro lo hlo => ?_
    · exact mkA_cons mk_non (mkA_cons mk_int (mkA_cons mk_str (mkA_cons mk_dnew (mkA_cons (mk_lst hS2 (mkA_cons (mk_var rfl one) mkA_nil)) (mkA_cons (mk_lst hS2 (mkA_cons (mk_tup (mkA_cons (mk_var rfl one) mkA_nil)) mkA_nil)) (mkA_cons (mk_lst hS2 (mkA_cons (mk_tup (mkA_cons (mk_var rfl one) (mkA_cons mk_int mkA_nil))) mkA_nil)) (mkA_cons (mk_lst hS2 (mkA_cons (mk_tup (mkA_cons (mk_var rfl one) (mkA_cons mk_non mkA_nil))) mkA_nil)) (mkA_cons (mk_lst hS2 (mkA_cons (mk_tup (mkA_cons (mk_var rfl one) (mkA_cons mk_bl (mkA_cons mk_bl mkA_nil)))) mkA_nil)) (mkA_cons (mk_lst hS2 (mkA_cons (mk_tup (mkA_cons mk_str (mkA_cons mk_bl mkA_nil))) mkA_nil)) mkA_nil)))))))))
    have nlH : H lo = none := none_back ((s1.trans s2).trans s3) hlo
    have nla : lo ≠ a := hSa lo nlH
    have sH3 := (s1.trans s2).trans s3
    have s4 : Same H3 (upd H3 lo (.lst vo)) := Same.new hlo
    have h4 : upd H3 lo (.lst vo) lo = some (.lst vo) := upd_same
    have up : ∀ {d : D} {v : V}, Rep (fun b => b ≠ a) H3 d v → Rep (fun b => b ≠ a ∧ b ≠ lo) (upd H3 lo (.lst vo)) d v := fun r => Rep.mono (fun b z => ⟨z.1, fun q => z.2 (q ▸ hlo)⟩) (stay_of s4) r.here
    have ups : ∀ {d : List D} {v : List V}, Reps (fun b => b ≠ a) H3 d v → Reps (fun b => b ≠ a ∧ b ≠ lo) (upd H3 lo (.lst vo)) d v := fun r => Reps.mono (fun b z => ⟨z.1, fun q => z.2 (q ▸ hlo)⟩) (stay_of s4) r.here
    have fv4 := up (rf1.same (s2.trans s3))
    have cv4 := up (hcA.same sH3)
    have ro4 := ups ro
    have sH4 := sH3.trans s4
    have sm4 : SameS a H (upd H3 lo (.lst vo)) := SameS.of sH4
    have hs4 := hs.same sH4
    generalize upd H3 lo (.lst vo) = H4 at h4 fv4 cv4 ro4 sm4 hs4 ⊢
    have hS4 : ∀ p, H4 p = none → p ≠ a ∧ p ≠ lo := fun p hp => ⟨fun z => (by
      obtain ⟨u4, hu4⟩ := hs4.lst
      rw [z, hu4] at hp
      cases hp), fun z => (by rw [z, h4] at hp; cases hp)⟩
    refine run_extend (S := fun b => b ≠ a ∧ b ≠ lo) (i := 6) (ds := oddsC2 p0.1) rfl h4 ?_ (by rw [ro4.length]; show 10 + 5 ≤ 1000; decide) fun H5 u5 s5 r5 => ?_
    · exact mk_lst hS4 (mkA_cons (mk_lst hS4 (mkA_cons (mk_tup (mkA_cons (mk_var rfl one) (mkA_cons mk_bl mkA_nil))) (mkA_cons (mk_tup (mkA_cons (mk_var rfl one) (mkA_cons mk_bl mkA_nil))) mkA_nil))) (mkA_cons (mk_lst hS4 (mkA_cons (mk_tup (mkA_cons (mk_var rfl one) (mkA_cons mk_bl mkA_nil))) (mkA_cons (mk_tup (mkA_cons (mk_var rfl one) (mkA_cons mk_bl mkA_nil))) mkA_nil))) (mkA_cons (mk_lst hS4 (mkA_cons (mk_tup (mkA_cons mk_int (mkA_cons mk_bl mkA_nil))) mkA_nil)) (mkA_cons (mk_lst hS4 (mkA_cons (mk_tup (mkA_cons (mk_lst hS4 (mkA_cons (mk_var rfl one) mkA_nil)) (mkA_cons mk_bl mkA_nil))) mkA_nil)) (mkA_cons (mk_lst hS4 (mkA_cons (mk_tup (mkA_cons (mk_var rfl one) (mkA_cons mk_str mkA_nil))) mkA_nil)) mkA_nil)))))
    have h5 := s5 _ _ h4
    have st : Stay (fun b => b ≠ a ∧ b ≠ lo) H5 (upd H5 lo (.lst (vo ++ u5))) := stay_upd h5 (nd_lst fun z => z.2 rfl)
    have fv6 := Rep.mono (fun _ z => z) st (fv4.same s5)
    have cv6 := Rep.mono (fun _ z => z) st (cv4.same s5)
    have ov6 : Rep (fun b => b ≠ a) (upd H5 lo (.lst (vo ++ u5))) (.lst (oddsC p0.1 ++ oddsC2 p0.1)) (.ref lo) := ⟨lo, _, rfl, nla, upd_same, Reps.append (Reps.mono (fun _ z => z.1) st (ro4.same s5)) (Reps.mono (fun _ z => z.1) st r5)⟩
    have sm6 : SameS a H (upd H5 lo (.lst (vo ++ u5))) := (sm4.trans (SameS.of s5)).at nlH
    have hs6 : Strm (upd H5 lo (.lst (vo ++ u5))) a n := (hs4.same s5).at nla
    generalize upd H5 lo (.lst (vo ++ u5)) = H6 at fv6 cv6 ov6 sm6 hs6 ⊢
    obtain ⟨lc, us, rfl, _, hlc, rus⟩ := id cv6
    have husl := rus.length
    rw [List.length_map] at husl
    have n2 : ¬ (fun b => b ≠ a ∧ b ≠ lo) a := fun z => z.1 rfl
    have n1 : ¬ (fun b => b ≠ a) a := fun z => z rfl
    refine tSeq_two (R := fun σ H7 => ∃ d : Nat, d ≤ cs.length ∧ σ = [some (.ref a), some (.ref r), some (.ref lc), some fv, some nv, some (.str p0.1), some (.ref lo), some (.int (d : Nat)), none, none, none] ∧ SameS a H H7 ∧ Strm H7 a (n + 1) ∧ Rep (fun b => b ≠ a) H7 (.lst ((oddsW.map fun o => (o, 0)).map bentD)) fv ∧ Rep (fun b => b ≠ a) H7 (clausesD cs) (.ref lc) ∧ Rep (fun b => b ≠ a) H7 (.lst (oddsC p0.1 ++ oddsC2 p0.1)) (.ref lo)) (fun D' hD => ?_) ?_
    · refine ⟨_, rfl, _, rfl, lc, us, rfl, .inl (SqL.of hlc), _, _, rfl, rfl, a, n, us.length + 1, rfl, hs6, by omega, by omega, by omega, fun u d hd hs7 => ?_⟩
      have sm67 : SameS a H6 (upd H6 a (.lst u)) := (SameS.refl H6).upd
      exact hD _ _ ⟨d, by omega, rfl, sm6.trans sm67, hs7, Rep.mono (fun _ z => z.1) (fun _ _ e _ => e) (sameS_rep sm67 hs6 n2 fv6), Rep.mono (fun _ z => z.1) (fun _ _ e _ => e) (sameS_rep sm67 hs6 n2 cv6), sameS_rep (S := fun b => b ≠ a) sm67 hs6 n1 ov6⟩
    rintro _ H7 ⟨d, hd, rfl, sm7, hs7, fv7, cv7, ov7⟩
    have hS7 : ∀ p, H7 p = none → p ≠ a := fun p hp z => by
      obtain ⟨u7, hu7⟩ := hs7.lst
      rw [z, hu7] at hp
      cases hp
    have h15 : (oddsC p0.1 ++ oddsC2 p0.1).length = 15 := rfl
    refine run_ret (S := fun b => b ≠ a) (d := .lst (((oddsW.map fun o => (o, 0)) ++ ((oddsC p0.1 ++ oddsC2 p0.1).map fun o => (bentCD cs d o, d))).map bentD)) ?_ fun H8 xv s8 r8 => ?_
    · refine mk_eq (mk_cat hS7 (mk_var rfl fv7) (mk_lcL (ds := oddsC p0.1 ++ oddsC2 p0.1) (es := ((oddsC p0.1 ++ oddsC2 p0.1).map fun o => (bentCD cs d o, d)).map bentD) hS7 (mk_var rfl ov7) (by rw [List.length_map, List.length_map]) (by rw [h15]; decide) fun S' H2 j d' e v s2 hS' hC hd' he rv Q' hQ => ?_) ?_) (congrArg D.lst List.map_append.symm)
      · rw [List.map_map, List.getElem?_map, hd'] at he
        cases he
        have cc : Rep S' H2 (clausesD cs) (.ref lc) := (Rep.mono (fun b z => hC b z.1 z.2) (fun _ _ e _ => e) cv7.here).same s2
        refine hQ _ rfl (mk_tup (mkA_cons (mk_cat hS' (mk_cat hS' (mk_cat hS' (mk_to (k := d) hS' (mk_var rfl cc) (mk_var (d := .int (d : Nat)) rfl rfl)) (mk_lst hS' (mkA_cons (mk_var rfl rv) mkA_nil)) ?_) (mk_from (k := d) hS' (mk_var rfl cc) (mk_var (d := .int (d : Nat)) rfl rfl)) ?_) (mk_lst hS' (mkA_cons mk_non mkA_nil)) ?_) (mkA_cons (mk_var (d := .int (d : Nat)) rfl rfl) mkA_nil)))
        all_goals
          simp only [List.length_append, List.length_take, List.length_drop, List.length_map, List.length_cons, List.length_nil]
          omega
      · show 5 + (((oddsC p0.1 ++ oddsC2 p0.1).map fun o => (bentCD cs d o, d)).map bentD).length ≤ 1000
        rw [List.length_map, List.length_map, h15]
        decide
    · obtain ⟨x, vx, rfl, _, hx, rx⟩ := r8
      refine k H8 x _ (sm7.trans (SameS.of s8)) (hs7.same s8) ⟨x, vx, rfl, trivial, hx, Reps.mono (fun _ _ => trivial) (fun _ _ e _ => e) rx⟩ (fun q hq => ?_) ?_
      · rcases List.mem_append.mp hq with hq | hq
        · obtain ⟨o, ho, rfl⟩ := List.mem_map.mp hq
          exact bentW ho
        · obtain ⟨o, ho, rfl⟩ := List.mem_map.mp hq
          obtain ⟨b1, b2⟩ := oddsC_bad (List.mem_map_of_mem hp0m) g.nm o ho
          exact bentC_at (clOk_of hio g.nd hnl) hcl (by omega) b1 b2
      · rw [List.length_append, List.length_map, List.length_map, h15]
        decide
end
end Q1

set_option Elab.async false
set_option maxRecDepth 100000
set_option maxHeartbeats 4000000
namespace Q1
open PySem PySem.Spec L2 LamX PyProof.Rows
/-! ### several except clauses, each with the same name behind as -/
/-- one clause's ends: the name is gone -/
def endsOff (De : Ends) (i : Nat) : Ends := { nx := fun σ1 H1 => De.nx (σ1.set i none) H1, rt := De.rt, bk := fun σ1 H1 => De.bk (σ1.set i none) H1, ct := fun σ1 H1 => De.ct (σ1.set i none) H1 }
def wishAs (K : PySem.W.Frag) (i : Nat) (Wo : WX) (De : Ends) : List (Value × (Addr → Value → Option Addr → TS)) → WX
  | [] => Wo
  | (c, ts) :: r => fun cls d σ H => ∃ b, PySem.W.exmOne K cls c = some b ∧ (b = true → ∀ a, H a = none → ts a cls d (endsOff De i) (σ.set i (some (.ref a))) H) ∧ (b = false → wishAs K i Wo De r cls d σ H)
inductive ClsAs (X : Cx) (n : Str) : List ExceptHandler → List (Value × (Addr → Value → Option Addr → TS)) → Prop
  | no : ClsAs X n [] []
  | one {x : Str} {c : Value} {ts : Addr → Value → Option Addr → TS} {b0 : Stmt} {su : List Stmt} {p1 p2 : Pos} {hs : List ExceptHandler} {l : List (Value × (Addr → Value → Option Addr → TS))} (nm : Names X x c)
      (go : ∀ (a : Addr) (oe : Obj) (cls : Value) (d : Option Addr) (pn : List (Addr × Obj)), Zc cls d oe → (∃ fs, oe.data = .fields fs) → PSs (X.suite a ((a, oe) :: pn)) (b0 :: su) (ts a cls d)) (r : ClsAs X n hs l) :
      ClsAs X n (.ExceptHandler (some (.Name x p1)) (some n) (b0 :: su) p2 :: hs) ((c, ts) :: l)
section
variable {X : Cx} {n : Str} {i : Nat} {bd : List Stmt} {e0 : ExceptHandler} {es : List ExceptHandler} {l : List (Value × (Addr → Value → Option Addr → TS))} {pos : Pos} {tb : WX → TS} {Wo : WX}
theorem ps_tryAs (st : X.stack = X.env :: X.outer) (fr : X.env.frame = some X.env.locals) (nd : X.N.Nodup) (hi : X.N[i]? = some n) (lc : X.env.kindOf n = some .local) (tk : Takes X Wo)
    (body : ∀ (W : WX) (pn : List (Addr × Obj)) (xe : Value → Shared → Prop), Takes (X.tr pn xe) W → PassesOwn (model X.prog X.w) X.A X.env xe → PSs (X.tr pn xe) bd (tb W)) (cl : ClsAs X n (e0 :: es) l) :
    PS X (.Try bd (e0 :: es) [] [] pos) (fun De σ H => tb (wishAs X.K i Wo De l) De σ H) := by
  refine ⟨fun pins s σ H De I0 h0 => ?_⟩
  have okX := I0.ok
  have frames : X.A.frames = some (X.env :: X.outer) := by
    rw [okX.frames, st]
  have locN : Loc X.env.scope n := Or.inl lc
  refine wpAny_Try_except ?_
  have run := (body (wishAs X.K i Wo De l) (X.pn ++ pins) (fun ev t1 => wpAny (model X.prog X.w) X.A (noteFrame ev X.env) (fun _ t2 => wpAny (model X.prog X.w) X.A (setFlight ev none) (fun _ t3 => wpAny (model X.prog X.w) X.A (handleBy ev X.env (e0 :: es)) (SP X pins De) X.xe t3) X.xe t2) X.xe t1) (fun _ sN caught => ?_) PassesOwn.looking).run [] s σ H De (I0.toTry _) h0
  · refine wpAny_mono run (fun fl sE hE => ?_) (fun _ _ z => z)
    cases fl with
    | next =>
      obtain ⟨σE, HE, JE, qE⟩ := hE
      exact wpAny_execs_nil ⟨σE, HE, JE.ofTry okX, qE⟩
    | brk =>
      obtain ⟨σE, HE, JE, qE⟩ := hE
      exact ⟨σE, HE, JE.ofTry okX, qE⟩
    | cont =>
      obtain ⟨σE, HE, JE, qE⟩ := hE
      exact ⟨σE, HE, JE.ofTry okX, qE⟩
    | ret uE =>
      obtain ⟨vE, σE, HE, JE, rE, qE⟩ := hE
      exact ⟨vE, σE, HE, JE.ofTry okX, rE, qE⟩
  · obtain ⟨x, Bx, sI, pI, σI, HI, cx, dx, rfl, JT, nbx, upx, skx, nax, osx, agx, wx⟩ := caught
    have J : Inv X pins σI HI sI := JT.ofTry okX
    have skX : Sky Bx (X.env :: X.outer) x (Zc cx dx) X.env.locals sN.heap := by
      rw [← st]
      exact skx
    show wpAny (model X.prog X.w) X.A (noteFrame (.ref x) X.env) _ _ _
    refine Sky.land Zc.steady frames fr skX fun g1 lnd upg => ?_
    have Jg : Inv X pins σI HI { sN with heap := g1 } := J.landed nbx lnd.1 (upx.trans upg) osx agx
    obtain ⟨og, vg, eg, zg, dg⟩ := lnd.there
    have noFrame : x ∉ frs (X.env :: X.outer) := fun hm => by
      obtain ⟨_, o2, e2, nf2⟩ := lnd.2.2.1.mem hm
      rw [eg] at e2
      cases e2
      exact nf2 _ dg
    have nLoc : x ≠ X.env.locals := fun z => noFrame (List.mem_filterMap.mpr ⟨X.env, List.mem_cons_self, by rw [fr, z]⟩)
    have nFs : x ∉ X.fs := fun hm => by
      obtain ⟨en, hen, q2⟩ := List.mem_filterMap.mp hm
      exact noFrame (List.mem_filterMap.mpr ⟨en, List.mem_cons_of_mem _ hen, q2⟩)
    have Sg := Jg.suite eg dg nax nLoc nFs
    have each : ∀ {hs2 : List ExceptHandler} {l2 : List (Value × (Addr → Value → Option Addr → TS))}, ClsAs X n hs2 l2 → wishAs X.K i Wo De l2 cx dx σI HI → wpAny (model X.prog X.w) X.A (handleBy (.ref x) X.env hs2) (SP X pins De) X.xe { sN with heap := g1 } := by
      intro hs2 l2 hk
      induction hk with
      | no =>
        intro wl
        refine wpAny_handleBy_nil ?_
        obtain ⟨_, _, _, o5, _, T5, _, _, e5, _, d5, at5, _⟩ := id lnd
        unfold PySem.passOn
        refine wpAny_bind (wpAny_field e5 d5 at5 ?_)
        rw [if_neg (by simp : ¬ ((Value.ref T5 == Value.none) = true))]
        have off : wpAny (model X.prog X.w) X.A (setFlight (.ref x) X.env.frame) (fun _ t4 => wpAny (model X.prog X.w) X.A (throw (.ref x) : Sem Flow) (SP X pins De) X.xe t4) X.xe { sN with heap := g1 } := by
          rw [fr]
          refine HandSPX.setFlight_upZ lnd fun g2 sky2 up2 => wpAny_throw (tk _ _ ?_)
          exact ⟨x, Bx, sI, pins, σI, HI, cx, dx, rfl, J, nbx, (upx.trans upg).trans up2, Or.inr (Or.inr (by rw [st]; exact sky2)), nax, osx, agx, wl⟩
        first
          | exact wpAny_bind (wpAny_pure (wpAny_bind off))
          | exact wpAny_bind off
      | @one y c ts b0 su p1 p2 hs3 l3 nm go r ih =>
        intro wl
        obtain ⟨bb, hb, yes, other⟩ := wl
        refine wpAny_handleBy_cons (codeAny_handlers_test ?_) (by intro z; cases z)
        have lookT : PySem.W.Looks (model X.prog X.w) g1 (typeOf (.ref x)) cx := fun A1 Q1 E1 s1 k1 q1 => wpAny_typeOf_ref (k1 _ _ eg) (by rw [zg.1]; exact q1)
        have lookE := PySem.W.exm_one (M := model X.prog X.w) (Jg.kIn) lookT hb
        have name : ∀ {Q1 : Value → Shared → Prop} {E1 : Value → Shared → Prop}, Q1 c { sN with heap := g1 } → wpAny (model X.prog X.w) (X.A.mark (some (.ref x))) (eval (.Name y p1) X.env) Q1 E1 { sN with heap := g1 } := fun {Q1 E1} q1 => by
          obtain ⟨gl, nodb, isg | ⟨ism, isb, isn⟩⟩ := nm
          · exact ld_glob (X := X.suite x ((x, og) :: (X.pn ++ pins))) Sg gl isg q1 nodb
          · exact ld_blt (X := X.suite x ((x, og) :: (X.pn ++ pins))) Sg gl ism isb q1 isn nodb
        refine name (lookE.here ?_)
        cases bb with
        | false =>
          show wpAny _ X.A (handleBy (.ref x) X.env hs3) _ _ _
          exact ih (other rfl)
        | true =>
          refine codeAny_handlers_suite_as ?_
          refine HandSPX.lands_againZ lnd fun g4 lnd4 up4 => ?_
          have J4 : Inv X pins σI HI { sN with heap := g4 } := J.landed nbx lnd4.1 ((upx.trans upg).trans up4) osx agx
          obtain ⟨o4, v4, e4, z4, d4⟩ := lnd4.there
          have Su := J4.suite e4 d4 nax nLoc nFs
          refine store_ok (X := X.suite x ((x, o4) :: (X.pn ++ pins))) (v := .ref x) Su nd hi locN rfl (fun t5 J5 => ?_) (.inr lc)
          refine wpAny_mono ((go x o4 cx dx (X.pn ++ pins) z4 ⟨_, d4⟩).run [] t5 _ HI _ J5 (yes rfl x nax)) (fun fl t6 h6 => ?_) (fun _ _ z => False.elim z)
          have leave : ∀ {σ6 : L2.St} {H6 : Hp} {R6 : Shared → Prop}, Inv (X.suite x ((x, o4) :: (X.pn ++ pins))) [] σ6 H6 t6 → (∀ t7, Inv X pins (σ6.set i none) H6 t7 → R6 t7) →
              wpAny (model X.prog X.w) X.A (do bindName X.env n .none; unbindBehindTheSuite X.env n p2) (fun _ t7 => R6 t7) X.xe t6 := fun {σ6 H6 R6} J6 q6 => gone_ok (J6.unsuite okX) nd hi lc q6
          cases fl with
          | next =>
            obtain ⟨σ6, H6, J6, q6⟩ := h6
            exact leave J6 fun t7 J7 => ⟨_, _, J7, q6⟩
          | brk =>
            obtain ⟨σ6, H6, J6, q6⟩ := h6
            exact leave J6 fun t7 J7 => ⟨_, _, J7, q6⟩
          | cont =>
            obtain ⟨σ6, H6, J6, q6⟩ := h6
            exact leave J6 fun t7 J7 => ⟨_, _, J7, q6⟩
          | ret u6 =>
            obtain ⟨v6, σ6, H6, J6, r6, q6⟩ := h6
            exact leave J6 fun t7 J7 => ⟨_, _, _, J7, r6, q6⟩
    exact each cl wx
end
end Q1

set_option Elab.async false
set_option maxRecDepth 100000
set_option maxHeartbeats 4000000
namespace Q1
open PySem PySem.Spec L2 LamX PyProof.Rows
theorem takes_len {X : Cx} {W : WX} (tk : Takes X W) : Takes X (fun cls d σ H => σ.length = X.N.length → W cls d σ H) := fun e s xx => tk e s (by
  obtain ⟨a, B, sI, p', σ', H', cls, d, rfl, J, nb, up, sky, na, os, ag, w⟩ := xx
  exact ⟨a, B, sI, p', σ', H', cls, d, rfl, J, nb, up, sky, na, os, ag, w J.len⟩)
/-- what a clause of _law_met tells -/
def MetR (wd : Str) (C : Addr) (cls : Value) (d : Option Addr) (H : Hp) (Q : VK) : Prop := cls = .ref C ∧ ∃ (dd : Addr) (j : Int), d = some dd ∧ H dd = some (.xd [("index", .int j)]) ∧ ∀ p, H p = none → Q (.ref p) (upd H p (.tup [.str wd, .int j]))
def metE (K : PySem.W.Frag) (C2 C3 C4 : Addr) (Q : VK) : XK := fun cls d H => ∃ b, PySem.W.exmOne K cls (.ref C2) = some b ∧ (b = true → MetR "marks" C2 cls d H Q) ∧ (b = false → ∃ b, PySem.W.exmOne K cls (.ref C3) = some b ∧ (b = true → MetR "wishes" C3 cls d H Q) ∧ (b = false →
  ∃ b, PySem.W.exmOne K cls (.ref C4) = some b ∧ (b = true → MetR "guards" C4 cls d H Q) ∧ (b = false → False)))
def TTmet (K : PySem.W.Frag) (C2 C3 C4 : Addr) : (XK → Hp → VK → Prop) → Hp → VK → Prop := fun tl H Q =>
  tl (metE K C2 C3 C4 Q) H (fun v H1 => [V.str "told", v].length ≤ sizeLine ∧ ∀ p, H1 p = none → Q (.ref p) (upd H1 p (.tup [.str "told", v])))
abbrev sMet : Stmt := top 41
abbrev nMet : List Str := ["ask", "e"]
theorem scMet : FnScope nMet ["ask"] (defScope sMet) := ⟨rfl, rfl, rfl, by decide +kernel, rfl, by decide +kernel, by decide +kernel⟩
/-- how an error's field is read -/
structure Xe (K : PySem.W.Frag) {mg : Str → Option Value} (Y : Pk K mg) : Prop where
  x2 : XfC K Y.e2.C
  x3 : XfC K Y.e3.C
  x4 : XfC K Y.e4.C
theorem set_one {σ : L2.St} {x : Option V} (h : σ.length = 2) : (σ.set 1 x)[1]? = some x := by
  rw [List.getElem?_set_self (by omega)]
theorem met_gives {X : Cx} {g : Addr} {cdg : Value} {q : Str} {K : PySem.W.Frag} {mg : Str → Option Value} (hK : X.K = K) (hmg : X.mg = mg) (Y : Pk K mg) (Z : Xe K Y) : GivesTo X nMet "_law_met" (defScope sMet) g cdg (defBody sMet) "ask" q (TTmet K Y.e2.C Y.e3.C Y.e4.C) := by
  subst hK hmg
  intro f c' s H Q tl act hc h
  refine ⟨_, pss_one (ps_tryAs (n := "e") (i := 1) (l := [(.ref Y.e2.C, fun a cls d => tRet (tTup (tCons (tC (.str "marks")) (tCons (tXf a cls d Y.e2.C "index" (tVar 1)) tNil)))), (.ref Y.e3.C, fun a cls d => tRet (tTup (tCons (tC (.str "wishes")) (tCons (tXf a cls d Y.e3.C "index" (tVar 1)) tNil)))), (.ref Y.e4.C, fun a cls d => tRet (tTup (tCons (tC (.str "guards")) (tCons (tXf a cls d Y.e4.C "index" (tVar 1)) tNil))))])
      (tb := fun W D σ H => ∃ Ech : XK, (∀ cls d σ' H', Ech cls d H' → σ'.length = 2 → W cls d σ' H') ∧ σ[0]? = some (some (.ref f)) ∧ H c' = some (CodeO c' q) ∧ tl Ech H (fun v H1 => [V.str "told", v].length ≤ sizeLine ∧ ∀ p, H1 p = none → D.rt (.ref p) (upd H1 p (.tup [.str "told", v]))))
      rfl rfl scMet.nd rfl rfl LamX.takes0 (fun W pn xe tk _ => ?_)
      (.one ⟨rfl, by decide, .inl Y.e2.g⟩ (fun a oe cls d pn hz hf => pss_one (ps_ret (pe_tup (pa_cons pe_str (pa_cons (pe_xf Z.x2 Y.e2.no hz hf (pv 1)) pa_nil)))))
      (.one ⟨rfl, by decide, .inl Y.e3.g⟩ (fun a oe cls d pn hz hf => pss_one (ps_ret (pe_tup (pa_cons pe_str (pa_cons (pe_xf Z.x3 Y.e3.no hz hf (pv 1)) pa_nil)))))
      (.one ⟨rfl, by decide, .inl Y.e4.g⟩ (fun a oe cls d pn hz hf => pss_one (ps_ret (pe_tup (pa_cons pe_str (pa_cons (pe_xf Z.x4 Y.e4.no hz hf (pv 1)) pa_nil))))) .no)))), ?_⟩
  · refine ⟨fun pins s' σ H' D I h' => ?_⟩
    obtain ⟨Ech, hW, h1, h2, h3⟩ := h'
    exact (pss_one (ps_ret (pe_tup (pa_cons pe_str (pa_cons (act _ pn xe Ech _ _ (takes_len tk) (fun cls d σ' H' e hl => hW cls d σ' H' e hl)) pa_nil))))).run pins s' σ H' D I ⟨h1, h2, h3⟩
  · have tell : ∀ {wd : Str} {C : Addr} {cls : Value} {d : Option Addr} {H' : Hp} {σ' : L2.St}, MetR wd C cls d H' Q → σ'.length = 2 → ∀ a, H' a = none → tRet (tTup (tCons (tC (.str wd)) (tCons (tXf a cls d C "index" (tVar 1)) tNil))) (endsOff { nx := fun _ H' => Q .non H', rt := Q } 1) (σ'.set 1 (some (.ref a))) H' := fun {wd C cls d H' σ'} m hl a ha => by
      obtain ⟨ec, dd, j, ed, hd, k⟩ := m
      exact ⟨_, set_one hl, rfl, ec, dd, _, _, ed, hd, rfl, by show 2 ≤ sizeLine; decide, fun p hp => k p hp⟩
    refine ⟨metE X.K Y.e2.C Y.e3.C Y.e4.C Q, fun cls d σ' H' m hl => ?_, rfl, hc, h⟩
    obtain ⟨b, e1, y1, n1⟩ := m
    refine ⟨b, e1, fun hb a ha => tell (y1 hb) hl a ha, fun hb => ?_⟩
    obtain ⟨b2, e2, y2, n2⟩ := n1 hb
    refine ⟨b2, e2, fun hb a ha => tell (y2 hb) hl a ha, fun hb => ?_⟩
    obtain ⟨b3, e3, y3, n3⟩ := n2 hb
    exact ⟨b3, e3, fun hb a ha => tell (y3 hb) hl a ha, fun hb => (n3 hb).elim⟩
end Q1

set_option Elab.async false
set_option maxRecDepth 100000
set_option maxHeartbeats 4000000
namespace Q1
open PySem PySem.Spec L2 LamX PyProof.Rows
/-- which clause takes which error -/
structure Xm (K : PySem.W.Frag) {mg : Str → Option Value} (Y : Pk K mg) : Prop where
  m22 : PySem.W.exmOne K (.ref Y.e2.C) (.ref Y.e2.C) = some true
  m32 : PySem.W.exmOne K (.ref Y.e3.C) (.ref Y.e2.C) = some false
  m33 : PySem.W.exmOne K (.ref Y.e3.C) (.ref Y.e3.C) = some true
  m42 : PySem.W.exmOne K (.ref Y.e4.C) (.ref Y.e2.C) = some false
  m43 : PySem.W.exmOne K (.ref Y.e4.C) (.ref Y.e3.C) = some false
  m44 : PySem.W.exmOne K (.ref Y.e4.C) (.ref Y.e4.C) = some true
theorem marks_first {d : D} {ps : List (Str × D)} (h : IsMarks d ps) : firstMark d = none := by
  obtain ⟨ds, h1, _, _, h4⟩ := h
  unfold firstMark
  rw [h1]
  exact stop_of 0 h4
theorem clauses_first {names : List Str} {d : D} {cs : List (List (Str × Bool))} (h : IsClauses names d cs) : firstClause names d = none := by
  obtain ⟨ds, h1, h2⟩ := h
  unfold firstClause
  rw [h1]
  have f : ∀ {ds : List D} {cs : List (List (Str × Bool))}, ds.map (litsOf names) = cs.map some → optFold (clauseS names) ds () = some () := by
    intro ds
    induction ds with
    | nil => exact fun _ => rfl
    | cons d ds ih =>
      intro cs e
      cases cs with
      | nil => cases e
      | cons c cs =>
        rw [List.map_cons, List.map_cons] at e
        injection e with e1 e2
        rw [optFold_cons]
        have e3 : clauseS names () d = some () := by
          unfold clauseS
          rw [e1]
          rfl
        rw [e3]
        exact ih e2
  exact stop_of 0 (f h2)
section
variable {C C2 C3 C4 : Addr} {T : List (Addr × Str)} {H0 : Hp} {x dx : Addr} {m wi gu : V} {S : Addr → Prop} {dm dw dg : D} {i : Nat} {Q : VK} {E : XK}
theorem bad_marks (nx : H0 x = none) (nd : H0 dx = none) (ne : dx ≠ x) (rm : Rep S H0 dm m) (rw_ : Rep S H0 dw wi) (rg : Rep S H0 dg gu) (t : Tabs T H0) (hm : firstMark dm = some i) (im : MarksIn dm) (iw : ClausesIn dw) (ig : ClausesIn dg)
    (k : ∀ H' d, ExtN H0 H' → Tabs T H' → H' d = some (.xd [("index", .int (i : Nat))]) → E (.ref C2) (some d) H') : spInit C C2 C3 C4 T [.ref x, m, wi, gu] (upd (upd H0 dx (.own x)) x (.ins C dx [])) Q E := by
  have nx2 : upd H0 dx (.own x) x = none := by rw [upd_ne (Ne.symm ne)]; exact nx
  refine ⟨H0, x, dx, m, wi, gu, S, dm, dw, dg, rfl, (Same.new nd).trans (Same.new nx2), nx, upd_same, rm, rw_, rg, t, im, iw, ig, ?_, ?_, ?_, ?_⟩
  · intro j hj H' d e t' hd
    rw [hm] at hj
    cases hj
    exact k H' d e t' hd
  · intro ps j hp
    rw [marks_first hp] at hm
    cases hm
  · intro ps cw j hp
    rw [marks_first hp] at hm
    cases hm
  · intro ps cw cg hp
    rw [marks_first hp] at hm
    cases hm
theorem bad_wishes {ps : List (Str × D)} (nx : H0 x = none) (nd : H0 dx = none) (ne : dx ≠ x) (rm : Rep S H0 dm m) (rw_ : Rep S H0 dw wi) (rg : Rep S H0 dg gu) (t : Tabs T H0) (hp : IsMarks dm ps) (hw : firstClause (ps.map Prod.fst) dw = some i) (im : MarksIn dm) (iw : ClausesIn dw) (ig : ClausesIn dg)
    (k : ∀ H' d, ExtN H0 H' → Tabs T H' → H' d = some (.xd [("index", .int (i : Nat))]) → E (.ref C3) (some d) H') : spInit C C2 C3 C4 T [.ref x, m, wi, gu] (upd (upd H0 dx (.own x)) x (.ins C dx [])) Q E := by
  have nx2 : upd H0 dx (.own x) x = none := by rw [upd_ne (Ne.symm ne)]; exact nx
  refine ⟨H0, x, dx, m, wi, gu, S, dm, dw, dg, rfl, (Same.new nd).trans (Same.new nx2), nx, upd_same, rm, rw_, rg, t, im, iw, ig, ?_, ?_, ?_, ?_⟩
  · intro j hj
    rw [marks_first hp] at hj
    cases hj
  · intro ps2 j hp2 hj H' d e t' hd
    rw [marks_uniq hp2 hp, hw] at hj
    cases hj
    exact k H' d e t' hd
  · intro ps2 cw j hp2 hw2
    rw [marks_uniq hp2 hp] at hw2
    rw [clauses_first hw2] at hw
    cases hw
  · intro ps2 cw cg hp2 hw2
    rw [marks_uniq hp2 hp] at hw2
    rw [clauses_first hw2] at hw
    cases hw
theorem bad_guards {ps : List (Str × D)} {cw : List (List (Str × Bool))} (nx : H0 x = none) (nd : H0 dx = none) (ne : dx ≠ x) (rm : Rep S H0 dm m) (rw_ : Rep S H0 dw wi) (rg : Rep S H0 dg gu) (t : Tabs T H0) (hp : IsMarks dm ps) (hw : IsClauses (ps.map Prod.fst) dw cw) (hg : firstClause (ps.map Prod.fst) dg = some i) (im : MarksIn dm) (iw : ClausesIn dw) (ig : ClausesIn dg)
    (k : ∀ H' d, ExtN H0 H' → Tabs T H' → H' d = some (.xd [("index", .int (i : Nat))]) → E (.ref C4) (some d) H') : spInit C C2 C3 C4 T [.ref x, m, wi, gu] (upd (upd H0 dx (.own x)) x (.ins C dx [])) Q E := by
  have nx2 : upd H0 dx (.own x) x = none := by rw [upd_ne (Ne.symm ne)]; exact nx
  refine ⟨H0, x, dx, m, wi, gu, S, dm, dw, dg, rfl, (Same.new nd).trans (Same.new nx2), nx, upd_same, rm, rw_, rg, t, im, iw, ig, ?_, ?_, ?_, ?_⟩
  · intro j hj
    rw [marks_first hp] at hj
    cases hj
  · intro ps2 j hp2 hj
    rw [marks_uniq hp2 hp, clauses_first hw] at hj
    cases hj
  · intro ps2 cw2 j hp2 hw2 hj H' d e t' hd
    rw [marks_uniq hp2 hp, hg] at hj
    cases hj
    exact k H' d e t' hd
  · intro ps2 cw2 cg hp2 hw2 hg2
    rw [marks_uniq hp2 hp] at hg2
    rw [clauses_first hg2] at hg
    cases hg
end
theorem same_end {wd : Str} (hw : PyData.strOk wd = true) {i : Nat} {H : Hp} {p p2 : Addr} {Q : VK} {E : XK} (hp : H p = none) (hp2 : (upd H p (.tup [.str wd, .int (i : Nat)])) p2 = none) (k : ∀ H', Same H H' → Q (.bl true) H') :
    spSame 2 [.ref p, .ref p2] (upd (upd H p (.tup [.str wd, .int (i : Nat)])) p2 (.tup [.str wd, .int (i : Nat)])) Q E :=
  ⟨fun _ => True, fun _ => True, .tup [.str wd, .int (i : Nat)], .ref p, .ref p2, rfl, ⟨p, _, rfl, (Same.new hp2) _ _ upd_same, _, _, rfl, rfl, _, _, rfl, rfl, rfl⟩, ⟨p2, _, rfl, upd_same, _, _, rfl, rfl, _, _, rfl, rfl, rfl⟩, ⟨ok_str hw, ok_int _ _, trivial⟩, Nat.le_of_ble_eq_true rfl, fun H' s => k H' (((Same.new hp).trans (Same.new hp2)).trans s)⟩
theorem non_in : ClausesIn .non := ⟨trivial, fun ds h => nomatch h⟩
section
variable {P : Program} {w : World} {K : PySem.W.Frag} {mg : Str → Option Value} {base : Heap}
/-! ### _law_refused_right -/
abbrev sRef : Stmt := top 49
abbrev nRef : List Str := ["stream", "question", "odd", "index", "marks", "wishes", "guards"]
theorem scRef : FnScope nRef ["stream", "question"] (defScope sRef) := ⟨rfl, rfl, rfl, by decide +kernel, rfl, by decide +kernel, by decide +kernel⟩
def spRef (T : List (Addr × Str)) : Sp := fun vs H Q _ => ∃ (S : Addr → Prop) (s r : Addr) (n : Nat) (ps : List (Str × D)) (cw cg : List (List (Str × Bool))), vs = [.ref s, .ref r] ∧ Strm H s n ∧ n + 3 < LIM ∧ Rep S H (qD ps cw cg) (.ref r) ∧ ¬ S s ∧ GoodQ ps cw cg ∧ 0 < ps.length ∧ Tabs T H ∧
  ∀ H', ExtS s H H' → Tabs T H' → Strm H' s (n + 3) → Q (.bl true) H'
structure Tr (base : Heap) (T : List (Addr × Str)) {K : PySem.W.Frag} {mg : Str → Option Value} (N : DnC K mg "_law_refused_right" sRef ["stream", "question"]) : Prop where
  TB : TabB base mg N.c N.t
  hm : (N.t, ("_law_refused_right.<locals>.<lambda>" : Str)) ∈ T
  hu : ∀ p ∈ T, p.1 = N.t → p.2 = "_law_refused_right.<locals>.<lambda>"
theorem ok_ref {T : List (Addr × Str)} (B : Bt mg) (W : Qw K mg) (TT : Tq base T W) (Xf : Xe K W.Y) (Xq : Xm K W.Y) (N : DnC K mg "_law_refused_right" sRef ["stream", "question"]) (TO : Tr base T N) (NS : Dn K mg "_law_same" sSame ["found", "wanted"]) (NT : Dn K mg "_law_met" sMet ["ask"])
    (NB : Dn K mg "_law_bent_marks" sBentM ["stream", "question"]) (NC : Dn K mg "_law_bent_clauses" sBentC ["stream", "question", "clauses"]) (ND : Dn K mg "_law_draw" sDraw ["stream", "many"]) :
    FnOk P w K mg base CX0 9 N.f N.fd ["stream", "question"] (spRef T) := by
  have GI : FnOk P w K mg base (L2.CX P w) 5 W.fi W.fdi ["self", "marks", "wishes", "guards"] (spInit W.Z.C W.Y.e2.C W.Y.e3.C W.Y.e4.C T) := ok_init B W.Cc W.Z W.Y W.F TT.TB TT.hm TT.hu
  have GS : FnOk P w K mg base CX0 3 NS.f NS.fd ["found", "wanted"] (spSame 2) := ok_same B NS 2
  have GB : FnOk P w K mg base CX0 2 NB.f NB.fd ["stream", "question"] spBentM := ok_bentM B NB ND
  have GC : FnOk P w K mg base CX0 2 NC.f NC.fd ["stream", "question", "clauses"] spBentC := ok_bentC B NC ND
  obtain ⟨mf, mfd, mF, mb, mg'⟩ := NT
  obtain ⟨⟨oc, od, kV, doc, pm, an, cdv, ct, osl, rfl, lk, hcd⟩, kp⟩ := mF
  refine N.F.ok scRef (fun vs H Q E h => ?_) (fun A outer s H vs Q E hr h => ?_)
  · obtain ⟨S, s, r, n, ps, cw, cg, rfl, _⟩ := h
    rfl
  · obtain ⟨S, a, r, n, ps, cw, cg, rfl, hs, hn, hq, hS, g, hp0, t0, k⟩ := h
    refine ⟨_, pss_cons (ps_for PassesOwn.never rfl (pi_list (pe_call GB (hr.mono (by decide)) (by rfl) NB.g NB.F.kp NB.b .nil pass0 (pa_cons (pv 0) (pa_cons (pv 1) pa_nil)))) (pg_tup rfl (pgs_cons (pg_name (i := 2) scRef.nd rfl (Or.inr rfl)) (pgs_cons (pg_name (i := 3) scRef.nd rfl (Or.inl rfl)) pgs_nil)))
        (pss_one (ps_if (pt_not (pt_val (pe_call GS (hr.mono (by decide)) (by rfl) NS.g NS.F.kp NS.b .nil pass0 (pa_cons
            (pe_lamcall (T := T) (TT := TTmet K W.Y.e2.C W.Y.e3.C W.Y.e4.C) (k := 6) (t := fun E => tMake W.Z.C (spInit W.Z.C W.Y.e2.C W.Y.e3.C W.Y.e4.C T) [] E (tCons (tVar 2) (tCons (tC .non) (tCons (tC .non) tNil)))) (by rfl) mg' kp lk hcd mb scMet rfl (.inl rfl) (met_gives (K := K) (mg := mg) rfl rfl W.Y Xf) TO.TB rfl TO.hm TO.hu hr (lamS_by (sc := defScope sRef) (by decide +kernel)) rfl (fun _ _ _ _ _ => rfl)
              (fun A outer s H E f c' hr2 => pe_make W.M GI hr2 (by rfl) W.Z.g W.bi .nil (passes_call (takes_of rfl rfl rfl rfl) (fun _ _ _ _ h => h)) (pa_cons (pv 2) (pa_cons pe_non (pa_cons pe_non pa_nil)))))
            (pa_cons (pe_tup (pa_cons pe_str (pa_cons (pv 3) pa_nil))) pa_nil))) (fun _ => rfl))) pss_never pss_nil)))
      (pss_cons (ps_asg (pv 1) (pg_tup rfl (pgs_cons (pg_name (i := 4) scRef.nd rfl (Or.inr rfl)) (pgs_cons (pg_name (i := 5) scRef.nd rfl (Or.inr rfl)) (pgs_cons (pg_name (i := 6) scRef.nd rfl (Or.inl rfl)) pgs_nil)))))
      (pss_cons (ps_for PassesOwn.never rfl (pi_list (pe_call GC (hr.mono (by decide)) (by rfl) NC.g NC.F.kp NC.b .nil pass0 (pa_cons (pv 0) (pa_cons (pv 1) (pa_cons (pv 5) pa_nil))))) (pg_tup rfl (pgs_cons (pg_name (i := 2) scRef.nd rfl (Or.inr rfl)) (pgs_cons (pg_name (i := 3) scRef.nd rfl (Or.inl rfl)) pgs_nil)))
        (pss_one (ps_if (pt_not (pt_val (pe_call GS (hr.mono (by decide)) (by rfl) NS.g NS.F.kp NS.b .nil pass0 (pa_cons
            (pe_lamcall (T := T) (TT := TTmet K W.Y.e2.C W.Y.e3.C W.Y.e4.C) (k := 6) (t := fun E => tMake W.Z.C (spInit W.Z.C W.Y.e2.C W.Y.e3.C W.Y.e4.C T) [] E (tCons (tVar 4) (tCons (tVar 2) (tCons (tC .non) tNil)))) (by rfl) mg' kp lk hcd mb scMet rfl (.inl rfl) (met_gives (K := K) (mg := mg) rfl rfl W.Y Xf) TO.TB rfl TO.hm TO.hu hr (lamS_by (sc := defScope sRef) (by decide +kernel)) rfl (fun _ _ _ _ _ => rfl)
              (fun A outer s H E f c' hr2 => pe_make W.M GI hr2 (by rfl) W.Z.g W.bi .nil (passes_call (takes_of rfl rfl rfl rfl) (fun _ _ _ _ h => h)) (pa_cons (pv 4) (pa_cons (pv 2) (pa_cons pe_non pa_nil)))))
            (pa_cons (pe_tup (pa_cons pe_str (pa_cons (pv 3) pa_nil))) pa_nil))) (fun _ => rfl))) pss_never pss_nil)))
      (pss_cons (ps_for PassesOwn.never rfl (pi_list (pe_call GC (hr.mono (by decide)) (by rfl) NC.g NC.F.kp NC.b .nil pass0 (pa_cons (pv 0) (pa_cons (pv 1) (pa_cons (pv 6) pa_nil))))) (pg_tup rfl (pgs_cons (pg_name (i := 2) scRef.nd rfl (Or.inr rfl)) (pgs_cons (pg_name (i := 3) scRef.nd rfl (Or.inl rfl)) pgs_nil)))
        (pss_one (ps_if (pt_not (pt_val (pe_call GS (hr.mono (by decide)) (by rfl) NS.g NS.F.kp NS.b .nil pass0 (pa_cons
            (pe_lamcall (T := T) (TT := TTmet K W.Y.e2.C W.Y.e3.C W.Y.e4.C) (k := 6) (t := fun E => tMake W.Z.C (spInit W.Z.C W.Y.e2.C W.Y.e3.C W.Y.e4.C T) [] E (tCons (tVar 4) (tCons (tVar 5) (tCons (tVar 2) tNil)))) (by rfl) mg' kp lk hcd mb scMet rfl (.inl rfl) (met_gives (K := K) (mg := mg) rfl rfl W.Y Xf) TO.TB rfl TO.hm TO.hu hr (lamS_by (sc := defScope sRef) (by decide +kernel)) rfl (fun _ _ _ _ _ => rfl)
              (fun A outer s H E f c' hr2 => pe_make W.M GI hr2 (by rfl) W.Z.g W.bi .nil (passes_call (takes_of rfl rfl rfl rfl) (fun _ _ _ _ h => h)) (pa_cons (pv 4) (pa_cons (pv 5) (pa_cons (pv 2) pa_nil)))))
            (pa_cons (pe_tup (pa_cons pe_str (pa_cons (pv 3) pa_nil))) pa_nil))) (fun _ => rfl))) pss_never pss_nil)))
      (pss_one (ps_ret pe_bl))))), ?_⟩
    obtain ⟨u0, hu0⟩ := hs.lst
    have hnm : ∀ x ∈ ps.map Prod.fst, isNameS x = true := fun x hx => qNames_name x (g.nm x hx)
    have hnl : (ps.map Prod.fst).length ≤ 13 := by rw [List.length_map]; exact g.pl
    have hpl := g.pl
    have hlw := g.lw
    have hlg := g.lg
    have im := (isMarks_self g.hd hnm g.nd).1
    have iw : IsClauses (ps.map Prod.fst) (clausesD cw) cw := (isClauses_loose (Loose.refl _) (fun c hc => ⟨(clOk_of g.w g.nd hnl c hc).1, (clOk_of g.w g.nd hnl c hc).2.1⟩)).1
    have imI : MarksIn (.lst (ps.map pairD)) := marksIn_of im hnm (by omega)
    have iwI : ClausesIn (clausesD cw) := clausesIn_of (Loose.refl _) (by omega) (fun c hc => by have := inOrd_len g.w hnl c hc; omega)
    refine ⟨_, rfl, _, rfl, S, a, r, n, ps, cw, cg, rfl, hs, by omega, hq, hS, g, hp0, fun H1 f rs sm1 hs1 rf hrs lrs => ?_⟩
    have any : ∀ {S : Addr → Prop} {H : Hp} {d : D} {v : V}, Rep S H d v → Rep (fun _ => True) H d v := fun r => Rep.mono (fun _ _ => trivial) (fun _ _ e _ => e) r
    have hq1 := sameS_rep sm1 hs hS hq
    have t1 := tabs_sameS sm1 hu0 t0
    obtain ⟨_, vs, ef, _, hf, rvs⟩ := rf
    cases ef
    refine ⟨f, rfl, ⟨_, SqL.of hf⟩, for_list (K := K) (a := f) (xs := vs) (fun i σ H' => (∃ o2 o3, σ = [some (.ref a), some (.ref r), o2, o3, none, none, none]) ∧ ExtN H1 H' ∧ Tabs T H') ⟨⟨_, _, rfl⟩, ExtN.refl _, t1⟩ (fun i σ H' _ y => SqL.of (y.2.1 _ _ hf (fun _ z => nomatch z))) ?_ ?_⟩
    · rintro i v σ H3 hv ⟨⟨o2, o3, rfl⟩, e3, t3⟩
      obtain ⟨dq, hdq, rq⟩ := rvs.get hv
      rw [List.getElem?_map] at hdq
      cases hri : rs[i]? with
      | none => rw [hri] at hdq; cases hdq
      | some q =>
        rw [hri] at hdq
        cases hdq
        have br := hrs q (List.mem_of_getElem? hri)
        obtain ⟨t, _, rfl, ht, ov, _, rfl, ro, iv, _, rfl, ri, rfl⟩ := rq.extN e3
        cases (show iv = .int (q.2 : Nat) from ri)
        refine ⟨t, _, rfl, SqT.of ht, rfl, ?_⟩
        refine ⟨_, _, rfl, _, _, rfl, rfl, ?_⟩
        refine ⟨t3, fun H4 e4 t4 => ⟨_, rfl, fun x dx nx ndx ne => bad_marks nx ndx ne (ro.extN e4) (dw := .non) (dg := .non) rfl rfl t4 br.1 br.2 non_in non_in fun H5 d e5 t5 hd => ⟨true, Xq.m22, fun _ => ⟨rfl, d, _, rfl, hd, fun p hp => ?_⟩, fun h => nomatch h⟩⟩⟩
        refine ⟨_, rfl, by show 2 ≤ sizeLine; decide, fun p2 hp2 => ?_⟩
        refine ⟨fun _ => True, fun _ => True, .tup [.str "marks", .int (q.2 : Nat)], .ref p, .ref p2, rfl, ⟨p, _, rfl, (Same.new hp2) _ _ upd_same, _, _, rfl, rfl, _, _, rfl, rfl, rfl⟩, ⟨p2, _, rfl, upd_same, _, _, rfl, rfl, _, _, rfl, rfl, rfl⟩, ⟨ok_str (by decide +kernel), ok_int _ _, trivial⟩, Nat.le_of_ble_eq_true rfl, fun H6 s6 => ?_⟩
        exact ⟨_, rfl, iteF ⟨⟨_, _, rfl⟩, ((e3.trans e4).trans e5).trans (extN_of (((Same.new hp).trans (Same.new hp2)).trans s6)), t5.ext (((Same.new hp).trans (Same.new hp2)).trans s6)⟩⟩
    rintro σ H2 ⟨⟨o2, o3, rfl⟩, e2, t2⟩
    have hq2 := hq1.extN e2
    have hs2 := strm_extN hs1 e2
    obtain ⟨_, _, er, hr2, mv, _, rfl, rmv, wv, _, rfl, rwv, gv, _, rfl, rgv, rfl⟩ := id hq2
    cases er
    obtain ⟨u2, hu2⟩ := hs2.lst
    refine ⟨_, rfl, r, _, rfl, SqT.of hr2, rfl, ?_⟩
    refine ⟨_, _, rfl, _, _, rfl, _, _, rfl, rfl, ?_⟩
    refine ⟨_, rfl, _, rfl, _, rfl, S, a, r, wv, n + 1, ps, cw, cg, cw, rfl, hs2, by omega, hq2, hS, g, hp0, rwv, g.w, g.lw, fun H3 f2 rs2 sm3 hs3 rf2 hrs2 lrs2 => ?_⟩
    have hq3 := sameS_rep sm3 hs2 hS hq2
    have t3 := tabs_sameS sm3 hu2 t2
    have rm3 := any (sameS_rep sm3 hs2 hS rmv)
    have rg3 := sameS_rep sm3 hs2 hS rgv
    have rw3 := sameS_rep sm3 hs2 hS rwv
    obtain ⟨_, vs2, ef, _, hf2, rvs2⟩ := rf2
    cases ef
    refine ⟨f2, rfl, ⟨_, SqL.of hf2⟩, for_list (K := K) (a := f2) (xs := vs2) (fun i σ H' => (∃ o2 o3, σ = [some (.ref a), some (.ref r), o2, o3, some mv, some wv, some gv]) ∧ ExtN H3 H' ∧ Tabs T H') ⟨⟨_, _, rfl⟩, ExtN.refl _, t3⟩ (fun i σ H' _ y => SqL.of (y.2.1 _ _ hf2 (fun _ z => nomatch z))) ?_ ?_⟩
    · rintro i v σ H4 hv ⟨⟨o2, o3, rfl⟩, e4, t4⟩
      obtain ⟨dq, hdq, rq⟩ := rvs2.get hv
      rw [List.getElem?_map] at hdq
      cases hri : rs2[i]? with
      | none => rw [hri] at hdq; cases hdq
      | some q =>
        rw [hri] at hdq
        cases hdq
        have br := hrs2 q (List.mem_of_getElem? hri)
        obtain ⟨t, _, rfl, ht, ov, _, rfl, ro, iv, _, rfl, ri, rfl⟩ := rq.extN e4
        cases (show iv = .int (q.2 : Nat) from ri)
        refine ⟨t, _, rfl, SqT.of ht, rfl, ?_⟩
        refine ⟨_, _, rfl, _, _, rfl, rfl, ?_⟩
        refine ⟨t4, fun H5 e5 t5 => ⟨_, rfl, _, rfl, fun x dx nx ndx ne => bad_wishes nx ndx ne ((rm3.extN e4).extN e5) (ro.extN e5) (dg := .non) rfl t5 im br.1 imI br.2 non_in fun H6 d e6 t6 hd => ?_⟩⟩
        refine ⟨false, Xq.m32, ?_, ?_⟩
        · intro h; cases h
        intro _
        refine ⟨true, Xq.m33, ?_, ?_⟩
        · intro _
          refine ⟨rfl, d, _, rfl, hd, fun p hp => ?_⟩
          refine ⟨_, rfl, by show 2 ≤ sizeLine; decide, fun p2 hp2 => ?_⟩
          refine ⟨fun _ => True, fun _ => True, .tup [.str "wishes", .int (q.2 : Nat)], .ref p, .ref p2, rfl, ⟨p, _, rfl, (Same.new hp2) _ _ upd_same, _, _, rfl, rfl, _, _, rfl, rfl, rfl⟩, ⟨p2, _, rfl, upd_same, _, _, rfl, rfl, _, _, rfl, rfl, rfl⟩, ⟨ok_str (by decide +kernel), ok_int _ _, trivial⟩, Nat.le_of_ble_eq_true rfl, fun H7 s7 => ?_⟩
          exact ⟨_, rfl, iteF ⟨⟨_, _, rfl⟩, ((e4.trans e5).trans e6).trans (extN_of (((Same.new hp).trans (Same.new hp2)).trans s7)), t6.ext (((Same.new hp).trans (Same.new hp2)).trans s7)⟩⟩
        · intro h; cases h
    rintro σ H4 ⟨⟨o4, o5, rfl⟩, e4, t4⟩
    have hq4 := hq3.extN e4
    have hs4 := strm_extN hs3 e4
    obtain ⟨u4, hu4⟩ := hs4.lst
    refine ⟨_, rfl, _, rfl, _, rfl, S, a, r, gv, n + 1 + 1, ps, cw, cg, cg, rfl, hs4, by omega, hq4, hS, g, hp0, rg3.extN e4, g.g, g.lg, fun H5 f3 rs3 sm5 hs5 rf3 hrs3 lrs3 => ?_⟩
    have t5 := tabs_sameS sm5 hu4 t4
    have rm5 := any (sameS_rep sm5 hs4 hS ((sameS_rep sm3 hs2 hS rmv).extN e4))
    have rw5 := any (sameS_rep sm5 hs4 hS (rw3.extN e4))
    obtain ⟨_, vs3, ef, _, hf3, rvs3⟩ := rf3
    cases ef
    refine ⟨f3, rfl, ⟨_, SqL.of hf3⟩, for_list (K := K) (a := f3) (xs := vs3) (fun i σ H' => (∃ o2 o3, σ = [some (.ref a), some (.ref r), o2, o3, some mv, some wv, some gv]) ∧ ExtN H5 H' ∧ Tabs T H') ⟨⟨_, _, rfl⟩, ExtN.refl _, t5⟩ (fun i σ H' _ y => SqL.of (y.2.1 _ _ hf3 (fun _ z => nomatch z))) ?_ ?_⟩
    · rintro i v σ H6 hv ⟨⟨o2, o3, rfl⟩, e6, t6⟩
      obtain ⟨dq, hdq, rq⟩ := rvs3.get hv
      rw [List.getElem?_map] at hdq
      cases hri : rs3[i]? with
      | none => rw [hri] at hdq; cases hdq
      | some q =>
        rw [hri] at hdq
        cases hdq
        have br := hrs3 q (List.mem_of_getElem? hri)
        obtain ⟨t, _, rfl, ht, ov, _, rfl, ro, iv, _, rfl, ri, rfl⟩ := rq.extN e6
        cases (show iv = .int (q.2 : Nat) from ri)
        refine ⟨t, _, rfl, SqT.of ht, rfl, ?_⟩
        refine ⟨_, _, rfl, _, _, rfl, rfl, ?_⟩
        refine ⟨t6, fun H7 e7 t7 => ⟨_, rfl, _, rfl, _, rfl, fun x dx nx ndx ne => bad_guards nx ndx ne ((rm5.extN e6).extN e7) ((rw5.extN e6).extN e7) (ro.extN e7) t7 im iw br.1 imI iwI br.2 fun H8 d e8 t8 hd => ?_⟩⟩
        refine ⟨false, Xq.m42, ?_, ?_⟩
        · intro h; cases h
        intro _
        refine ⟨false, Xq.m43, ?_, ?_⟩
        · intro h; cases h
        intro _
        refine ⟨true, Xq.m44, ?_, ?_⟩
        · intro _
          refine ⟨rfl, d, _, rfl, hd, fun p hp => ?_⟩
          refine ⟨_, rfl, by show 2 ≤ sizeLine; decide, fun p2 hp2 => ?_⟩
          refine ⟨fun _ => True, fun _ => True, .tup [.str "guards", .int (q.2 : Nat)], .ref p, .ref p2, rfl, ⟨p, _, rfl, (Same.new hp2) _ _ upd_same, _, _, rfl, rfl, _, _, rfl, rfl, rfl⟩, ⟨p2, _, rfl, upd_same, _, _, rfl, rfl, _, _, rfl, rfl, rfl⟩, ⟨ok_str (by decide +kernel), ok_int _ _, trivial⟩, Nat.le_of_ble_eq_true rfl, fun H9 s9 => ?_⟩
          exact ⟨_, rfl, iteF ⟨⟨_, _, rfl⟩, ((e6.trans e7).trans e8).trans (extN_of (((Same.new hp).trans (Same.new hp2)).trans s9)), t8.ext (((Same.new hp).trans (Same.new hp2)).trans s9)⟩⟩
        · intro h; cases h
    rintro σ H6 ⟨⟨o6, o7, rfl⟩, e6, t6⟩
    exact k H6 (((((ExtS.of sm1).trans (ExtS.ofN e2)).trans (ExtS.of sm3)).trans (ExtS.ofN e4)).trans ((ExtS.of sm5).trans (ExtS.ofN e6))) t6 (strm_extN hs5 e6)
end
end Q1

set_option Elab.async false
set_option maxRecDepth 100000
set_option maxHeartbeats 4000000
namespace Q1
open PySem L2 LamX PyProof.Rows
section
variable {X : Cx} {CX : CXT} {k : Nat} {f : Addr} {fd : FuncData} {ps ks : List Str} {sp : Sp} {E : XK} {x : Str} {p pos : Pos} {kws : List Keyword} {tk : TA} {g : List Value → List Value → List Value} {gV : List V → List V → List V}
/-- f(k = v, ..) -/
theorem pe_callKw (F : FnOk X.prog X.w X.K X.mg X.base CX k f fd ps sp) (hr : Room k X.A) (hg : Gl X x) (hm : X.mg x = some (.ref f)) (hk : PySem.W.keepIn X.K (.ref f) = true) (hb : KBinds X.K fd ps ks g gV) (hx : Passes CX X E) (hkw : PK X kws tk)
    (hall : (backToKw pos (keywordEach kws X.env)).all (·.1.isSome) = true := by rfl) (hks : (backToKw pos (keywordEach kws X.env)).filterMap (·.1) = ks := by rfl) (hdb : (x == ("__debug__" : Str)) = false := by decide)
    (hpl : ((backTo pos (starEach [] X.env)).any (·.1) || (backToKw pos (keywordEach kws X.env)).any (·.1.isNone)) = false := by rfl) :
    PE X (.Call (.Name x p) [] kws pos) (tCallK sp gV E tNil tk) := by
  refine ⟨fun pins s σ H Q I h => ?_⟩
  refine wpAny_Call_Name_kw (ld_glob I hg hm ?_ hdb)
  refine PySem.W.callWith_KW0 (h₀ := X.base) I.ok.mod.kin hk hall ?_ hpl
  refine thn (hkw.run pos pins s σ H _ I h) fun ws s2 ⟨zs, H2, I2, rz, q2⟩ => ⟨I2.kIn, ?_⟩
  rw [hks]
  exact run_fnk (us := []) (vs := []) F hr hb hx I2 .nil rz q2
end
section
variable {K : PySem.W.Frag}
theorem kb_hand {f : Addr} {fd : FuncData} (F : Fun K "is_hand" "is_hand" sIsHand f fd) : KBinds K fd ["thing"] ["thing"] (fun us ws => us ++ ws) (fun vs zs => vs ++ zs) := by
  obtain ⟨oc, od, kV, doc, pm, an, cdv, ct, osl, rfl, lk, hcd⟩ := F.ex
  refine ⟨fun s us ws X hl => ?_, fun r1 r2 => r1.append r2⟩
  match us, ws, hl with
  | [a], [], _ => exact .of_eq rfl
  | [], [a], _ => exact .of_eq rfl
end
section
variable {S : Addr → Prop} {te tf : TE} {ta : TA} {σ : L2.St} {H : Hp} {d : D} {ds : List D} {K : PySem.W.Frag}
theorem reps_rep {vs : List V} (h : Reps S H ds vs) : ∀ k, Reps S H (List.replicate k ds).flatten (List.replicate k vs).flatten
  | 0 => rfl
  | k + 1 => by
    rw [List.replicate_succ, List.replicate_succ, List.flatten_cons, List.flatten_cons]
    exact Reps.append h (reps_rep h k)
theorem mk_rep {k : Nat} (hS : ∀ p, H p = none → S p) (h : MkE S te σ H (.lst ds)) (q : MkE S tf σ H (.int (k : Nat))) (hk : k ≤ 1000) (hl : ds.length * k ≤ 1000) : MkE S (tOp rRep te tf) σ H (.lst (List.replicate k ds).flatten) := fun H1 _ s kk => h H1 _ s fun H2 v s2 r => q H2 _ (s.trans s2) fun H3 u s3 r2 => by
  obtain ⟨l, vs, rfl, hl2, hv, rv⟩ := r
  cases (show u = .int (k : Nat) from r2)
  have hlen := rv.length
  refine ⟨l, (k : Int), vs, rfl, rfl, s3 _ _ hv, by omega, by omega, ?_, fun p hp => ?_⟩
  · rw [hlen, Int.toNat_natCast]
    exact Nat.le_trans hl (by decide)
  · rw [Int.toNat_natCast]
    exact kk _ (.ref p) ((s2.trans s3).trans (Same.new hp)) ⟨p, _, rfl, hS p (none_back ((s.trans s2).trans s3) hp), upd_same, (reps_rep ((rv.same s3).same (Same.new hp)) k : _)⟩
theorem mk_subI {i j : Int} (h : MkE S te σ H (.int i)) (k : MkE S tf σ H (.int j)) : MkE S (tOp (rI0 fun i j => .int (i - j)) te tf) σ H (.int (i - j)) := fun H1 _ s q => h H1 _ s fun H2 v s2 r => k H2 _ (s.trans s2) fun H3 u s3 r2 => by
  cases (show v = .int i from r)
  cases (show u = .int j from r2)
  exact ⟨i, j, rfl, rfl, q H3 _ (s2.trans s3) rfl⟩
theorem mk_pow {i : Int} {j : Int} (c : CPow i j) : MkE S (tOp (rI CPow fun i j => .int (i ^ j.toNat)) (tC (.int i)) (tC (.int j))) σ H (.int (i ^ j.toNat)) := fun H1 _ _ k => ⟨i, j, rfl, rfl, c, k H1 _ (Same.refl _) rfl⟩
theorem mk_neg {i : Int} : MkE S (tUn (rU fun i => .int (-i)) (tC (.int i))) σ H (.int (-i)) := fun H1 _ _ k => ⟨i, rfl, k H1 _ (Same.refl _) rfl⟩
theorem mk_hand (h : MkE S te σ H d) : MkE S (tCall spIsHand [] E0 (tCons te tNil)) σ H (.bl d.isHand) := fun H1 _ s k => h H1 _ s fun H2 v s2 r => ⟨S, d, v, rfl, r, fun H3 s3 => k H3 _ (s2.trans s3) rfl⟩
theorem mk_handK (h : MkE S te σ H d) : MkE S (tCallK spIsHand (fun vs zs => vs ++ zs) E0 tNil (tCons te tNil)) σ H (.bl d.isHand) := fun H1 _ s k => h H1 _ s fun H2 v s2 r => ⟨S, d, v, rfl, r, fun H3 s3 => k H3 _ (s2.trans s3) rfl⟩
theorem run_retCall {sp : Sp} {De : Ends} (h : MkA S ta σ H ds) (k : ∀ H2 vs, Same H H2 → Reps S H2 ds vs → sp (vs ++ []) H2 De.rt E0) : tRet (tCall sp [] E0 ta) De σ H := h H _ (Same.refl _) k
theorem seqS {l s : Addr} {xs : List V} {Hs H' : Hp} (q : SqL K H l xs) (hn : H s = none) (sm : Same H Hs) (e : ExtS s Hs H') : SqL K H' l xs := by
  rcases q with (h | ⟨o, h⟩) | h
  · exact .inl (.inl (e _ _ (fun z => by rw [z, hn] at h; cases h) (sm _ _ h) (fun _ z => by cases z)))
  · exact .inl (.inr ⟨o, e _ _ (fun z => by rw [z, hn] at h; cases h) (sm _ _ h) (fun _ z => by cases z)⟩)
  · exact .inr h
theorem ok_bl {n : Nat} {b : Bool} : (D.bl b).ok n := by
  cases n <;> simp only [D.ok]
theorem tabs0 {T : List (Addr × Str)} (h : ∀ p ∈ T, H p.1 = some (.tbl #[])) : Tabs T H := fun p hp => ⟨#[], h p hp, by first | trivial | (intro x hx; cases hx) | exact ⟨⟩, fun pos cv hc => by cases hc⟩
end
def hands1 : List D := [.str "we", .str "they", .tup [.int 1, .int 2], .lst [.int 1, .int 2], .tup [.int 2, .int 4], .tup [.int 999, .int 1000], .tup [.int 1, .int (10 ^ (9 : Int).toNat)], .tup [.int 1, .int 1], .tup [.int 0, .int 1], .tup [.int 2, .int 1], .tup [.int (-1), .int 2], .tup [.int 1], .tup []]
def hands2 : List D := [.non, .int 5, .str "chance", .str "", .str "We", .dic, .bl true, .tup [.bl true, .int 2], .tup [.int 1, .bl true], .tup [.int 1, .str "2"], .tup [.int 1, .int 2, .int 3], .lst [.str "we"], .tup [.int 1, .non]]
def wantB : List Bool := List.replicate 7 true ++ (List.replicate 19 false ++ [true])
theorem hands_ok : (hands1 ++ hands2).map D.isHand = List.replicate 7 true ++ List.replicate 19 false := by decide +kernel
theorem found_ok : (hands1 ++ hands2).map (fun d => D.bl d.isHand) ++ [D.bl (D.str "they").isHand] = wantB.map D.bl := by
  rw [show (hands1 ++ hands2).map (fun d => D.bl d.isHand) = ((hands1 ++ hands2).map D.isHand).map D.bl by rw [List.map_map]; rfl, hands_ok, show (D.str "they").isHand = true by decide +kernel]
  rfl
theorem want_ok : ((List.replicate 7 [D.bl true]).flatten ++ (List.replicate 19 [D.bl false]).flatten) ++ [D.bl true] = wantB.map D.bl := rfl
end Q1

set_option Elab.async false
set_option maxRecDepth 100000
set_option maxHeartbeats 4000000
namespace Q1
open PySem L2 LamX PyProof.Rows
section
variable {P : Program} {w : World} {K : PySem.W.Frag} {mg : Str → Option Value} {base : Heap}
/-! ### law -/
abbrev sLaw : Stmt := top 50
abbrev nLaw : List Str := ["script", "turn", "stream", "many", "question", "hands", "found", "hand"]
theorem scLaw : FnScope nLaw ["script"] (defScope sLaw) := ⟨rfl, rfl, rfl, by decide +kernel, rfl, by decide +kernel, by decide +kernel⟩
def spLaw (K : PySem.W.Frag) (T : List (Addr × Str)) : Sp := fun vs H Q _ => ∃ (l : Addr) (ns : List Int), vs = [.ref l] ∧ SqL K H l (ns.map V.int) ∧ ns.length < 1000000 ∧ Tabs T H ∧ ∀ H', Q (.bl true) H'
theorem ok_law {T : List (Addr × Str)} (B : Bt mg) (W : Qw K mg) (TT : Tq base T W) (M : Mt K W.Z.C) (Y : Qe K W.Z.C) (Yn : Qn K W.Z.C) (Xf : Xe K W.Y) (Xq : Xm K W.Y) (N : Dn K mg "law" sLaw ["script"]) (NSt : Dn K mg "_law_stream" sStream ["script", "k"]) (NQ : Dn K mg "_law_q_drawn" sQDrawn ["stream", "many", "is_chance"]) (Z : Dr K mg)
    (NTo : Dn K mg "_law_told_right" sTold ["stream", "question"]) (NS : Dn K mg "_law_same" sSame ["found", "wanted"]) (NP : Dn K mg "_law_parts" sParts ["question"]) (NT : Dn K mg "_law_late" sLate ["thing"]) (NL : Dn K mg "_law_q_loose" sLoose ["stream", "thing"])
    (NLi : Dn K mg "_law_like" sLike ["stream", "question"]) (NMa : Dn K mg "_law_q_made" sMade ["stream", "question"]) (NN : Dn K mg "_law_near" sNear ["stream", "question"]) (NO : Dn K mg "_law_each_once" sOnce ["some"]) (NR : DnC K mg "_law_ordered" sOrdered ["names", "clause"]) (TO : To base T NR)
    (NA : Dn K mg "_law_apart" sApart ["question"]) (NRf : DnC K mg "_law_refused_right" sRef ["stream", "question"]) (TR : Tr base T NRf) (NMt : Dn K mg "_law_met" sMet ["ask"]) (NBM : Dn K mg "_law_bent_marks" sBentM ["stream", "question"]) (NBC : Dn K mg "_law_bent_clauses" sBentC ["stream", "question", "clauses"]) :
    FnG P w K mg base CX0 10 N.f N.fd ["script"] (spLaw K T) := by
  have GD : FnOk P w K mg base CX0 1 Z.draw.f Z.draw.fd ["stream", "many"] spDraw := ok_draw B Z.draw
  have GSt : FnOk P w K mg base CX0 1 NSt.f NSt.fd ["script", "k"] (spStream K) := ok_stream B NSt
  have GQ : FnOk P w K mg base CX0 5 NQ.f NQ.fd ["stream", "many", "is_chance"] spQDrawn := ok_qdrawn B NQ Z
  have GTo : FnG P w K mg base CX0 8 NTo.f NTo.fd ["stream", "question"] (spTold T) := ok_told B W TT M Y NTo NS NP NT NL Z.mixed Z.draw
  have GLi : FnOk P w K mg base CX0 8 NLi.f NLi.fd ["stream", "question"] (spLike T) := ok_like B W TT Y Yn NLi NMa NN NO NR TO NL Z.mixed Z.draw Z.pick
  have GA : FnOk P w K mg base CX0 7 NA.f NA.fd ["question"] (spApart T) := ok_apart B W TT M NA NS
  have GR : FnOk P w K mg base CX0 9 NRf.f NRf.fd ["stream", "question"] (spRef T) := ok_ref B W TT Xf Xq NRf TR NS NMt NBM NBC Z.draw
  have GS : FnOk P w K mg base CX0 3 NS.f NS.fd ["found", "wanted"] (spSame 2) := ok_same B NS 2
  have GH : FnOk P w K mg base CX0 3 W.Y.isHand.f W.Y.isHand.fd ["thing"] spIsHand := ok_isHand B W.Y.isHand W.Y.isList W.Y.isTupleOf W.Y.isInteger
  have hL : LIM = 1000000000 := rfl
  refine FnG.fn N.F scLaw (fun vs H Q E h => ?_) (fun cdv A outer s H vs Q E hgd hr h => ?_)
  · obtain ⟨l, ns, rfl, _⟩ := h
    rfl
  · obtain ⟨l, ns, rfl, hl, hln, t0, k⟩ := h
    have hg2 := deeper_guards (env := envOfC "law" (defScope sLaw) s.heap.objs.size N.f cdv) hgd
    refine ⟨_, pss_cons (ps_for PassesOwn.never rfl (pi_range1 (by rfl) B.range (pa_cons pe_int pa_nil)) (pg_name (i := 1) scLaw.nd rfl (Or.inl rfl))
        (pss_cons (ps_set (i := 2) scLaw.nd rfl (Or.inl rfl) (pe_call GSt (hr.mono (by decide)) (by rfl) NSt.g NSt.F.kp NSt.b .nil pass0 (pa_cons (pv 0) (pa_cons (pv 1) pa_nil))))
        (pss_cons (ps_for PassesOwn.never rfl (pi_tup (pe_tup (pa_cons pe_int (pa_cons (pe_op op_add pe_int (pe_call GD (hr.mono (by decide)) (by rfl) Z.draw.g Z.draw.F.kp Z.draw.b .nil pass0 (pa_cons (pv 2) (pa_cons pe_int pa_nil)))) (pa_cons (pe_op op_add pe_int (pe_call GD (hr.mono (by decide)) (by rfl) Z.draw.g Z.draw.F.kp Z.draw.b .nil pass0 (pa_cons (pv 2) (pa_cons pe_int pa_nil)))) pa_nil))))) (pg_name (i := 3) scLaw.nd rfl (Or.inl rfl))
            (pss_cons (ps_set (i := 4) scLaw.nd rfl (Or.inl rfl) (pe_call GQ (hr.mono (by decide)) (by rfl) NQ.g NQ.F.kp NQ.b .nil pass0 (pa_cons (pv 2) (pa_cons (pv 3) (pa_cons (pe_cmpR op_eq (pe_call GD (hr.mono (by decide)) (by rfl) Z.draw.g Z.draw.F.kp Z.draw.b .nil pass0 (pa_cons (pv 2) (pa_cons pe_int pa_nil))) pe_int (nomark _)) pa_nil)))))
            (pss_one (ps_if (PW.pt (pw_or (pt_not (pt_val (pe_callG GTo hg2 (hr.mono (by decide)) (by rfl) NTo.g NTo.F.kp NTo.b .nil pass0 (pa_cons (pv 2) (pa_cons (pv 4) pa_nil))) (fun _ => rfl)))
                (pw_or (pt_not (pt_val (pe_call GLi (hr.mono (by decide)) (by rfl) NLi.g NLi.F.kp NLi.b .nil pass0 (pa_cons (pv 2) (pa_cons (pv 4) pa_nil))) (fun _ => rfl)))
                (pw_or1 (pt_not (pt_val (pe_call GA (hr.mono (by decide)) (by rfl) NA.g NA.F.kp NA.b .nil pass0 (pa_cons (pv 4) pa_nil)) (fun _ => rfl))))))) pss_never pss_nil))))
        (pss_one (ps_if (pt_not (pt_val (pe_call GR hr (by rfl) NRf.g NRf.F.kp NRf.b .nil pass0 (pa_cons (pv 2) (pa_cons (pe_call GQ (hr.mono (by decide)) (by rfl) NQ.g NQ.F.kp NQ.b .nil pass0 (pa_cons (pv 2) (pa_cons (pe_op op_add pe_int (pe_call GD (hr.mono (by decide)) (by rfl) Z.draw.g Z.draw.F.kp Z.draw.b .nil pass0 (pa_cons (pv 2) (pa_cons pe_int pa_nil)))) (pa_cons pe_bl pa_nil)))) pa_nil))) (fun _ => rfl))) pss_never pss_nil)))))
      (pss_cons (ps_set (i := 5) scLaw.nd rfl (Or.inl rfl) (pe_lst (pa_cons pe_str (pa_cons pe_str (pa_cons (pe_tup (pa_cons pe_int (pa_cons pe_int pa_nil))) (pa_cons (pe_lst (pa_cons pe_int (pa_cons pe_int pa_nil))) (pa_cons (pe_tup (pa_cons pe_int (pa_cons pe_int pa_nil))) (pa_cons (pe_tup (pa_cons pe_int (pa_cons pe_int pa_nil))) (pa_cons (pe_tup (pa_cons pe_int (pa_cons (pe_op op_pow pe_int pe_int) pa_nil)))
          (pa_cons (pe_tup (pa_cons pe_int (pa_cons pe_int pa_nil))) (pa_cons (pe_tup (pa_cons pe_int (pa_cons pe_int pa_nil))) (pa_cons (pe_tup (pa_cons pe_int (pa_cons pe_int pa_nil))) (pa_cons (pe_tup (pa_cons (pe_un un_neg pe_int) (pa_cons pe_int pa_nil))) (pa_cons (pe_tup (pa_cons pe_int pa_nil)) (pa_cons (pe_tup pa_nil) pa_nil)))))))))))))))
      (pss_cons (ps_expr (pe_bm PySem.F.plainAttrs_list PySem.F.slot_list_extend PySem.F.type_list_extend mt_extend (pv 5) (pa_cons (pe_lst (pa_cons pe_non (pa_cons pe_int (pa_cons pe_str (pa_cons pe_str (pa_cons pe_str (pa_cons pe_dnewK (pa_cons pe_bl (pa_cons (pe_tup (pa_cons pe_bl (pa_cons pe_int pa_nil))) (pa_cons (pe_tup (pa_cons pe_int (pa_cons pe_bl pa_nil))) (pa_cons (pe_tup (pa_cons pe_int (pa_cons pe_str pa_nil)))
          (pa_cons (pe_tup (pa_cons pe_int (pa_cons pe_int (pa_cons pe_int pa_nil)))) (pa_cons (pe_lst (pa_cons pe_str pa_nil)) (pa_cons (pe_tup (pa_cons pe_int (pa_cons pe_non pa_nil))) pa_nil)))))))))))))) pa_nil)))
      (pss_cons (ps_set (i := 6) scLaw.nd rfl (Or.inl rfl) (pe_op op_cat (pe_lc (own := [("hand", 7)]) (g := gName 7) (tt := tYes) (te := tCall spIsHand [] E0 (tCons (tVar 7) tNil)) rfl scLaw.nd (pi_list (pv 5)) (blkOk_by (own := [("hand", 7)]) (N := nLaw) (sc := defScope sLaw) (by decide +kernel)) (fun _ _ _ _ _ => pg_name (i := 7) scLaw.nd rfl (Or.inl rfl)) (fun _ _ _ _ _ => pts_nil)
            (fun _ _ _ _ _ => pe_call GH (hr.mono (by decide)) (by rfl) W.Y.isHand.g W.Y.isHand.F.kp W.Y.isHand.b .nil pass0 (pa_cons (pv 7) pa_nil)))
          (pe_lst (pa_cons (pe_callKw GH (hr.mono (by decide)) (by rfl) W.Y.isHand.g W.Y.isHand.F.kp (kb_hand W.Y.isHand.F) pass0 (pk_cons pe_str pk_nil)) pa_nil))))
      (pss_one (ps_ret (pe_call GS (hr.mono (by decide)) (by rfl) NS.g NS.F.kp NS.b .nil pass0 (pa_cons (pv 6) (pa_cons (pe_op op_cat (pe_op op_cat (pe_op op_rep (pe_lst (pa_cons pe_bl pa_nil)) pe_int) (pe_op op_rep (pe_lst (pa_cons pe_bl pa_nil)) (pe_op op_sub (pe_callB call_lenS (by rfl) B.len boot_len (pa_cons (pv 5) pa_nil)) pe_int))) (pe_lst (pa_cons pe_bl pa_nil))) pa_nil)))))))), ?_⟩
    refine ⟨3, rfl, by decide, by decide, for_range (n := 3) (fun i σ H' => (∃ o1 o2 o3 o4, σ = [some (.ref l), o1, o2, o3, o4, none, none, none]) ∧ Tabs T H' ∧ SqL K H' l (ns.map V.int)) ⟨⟨_, _, _, _, rfl⟩, t0, hl⟩ ?_ ?_⟩
    · rintro i σ H1 hi ⟨⟨o1, o2, o3, o4, rfl⟩, t1, hl1⟩
      rw [Int.zero_add]
      refine ⟨_, rfl, _, rfl, l, i, ns, rfl, hl1, by omega, hln, fun Hs s sm hsn hs => ?_⟩
      obtain ⟨u0, hu0⟩ := hs.lst
      have ts := t1.ext sm
      refine ⟨_, rfl, s, 0, 4, rfl, hs, by decide, by decide, by decide, fun u1 d1 hd1 hs1 => ⟨_, _, rfl, rfl, _, rfl, s, 1, 8, rfl, hs1, by decide, by decide, by decide, fun u2 d2 hd2 hs2 => ⟨_, _, rfl, rfl, by show 3 ≤ sizeLine; decide, fun p hp => ?_⟩⟩⟩
      have sm3 : SameS s Hs (upd (upd (upd Hs s (.lst u1)) s (.lst u2)) p (.tup [.int 0, .int (1 + (d1 : Nat)), .int (6 + (d2 : Nat))])) := (((SameS.refl Hs).upd).upd).new hp
      have hs3 := hs2.same (Same.new (o := .tup [.int 0, .int (1 + (d1 : Nat)), .int (6 + (d2 : Nat))]) hp)
      have hp3 : (upd (upd (upd Hs s (.lst u1)) s (.lst u2)) p (.tup [.int 0, .int (1 + (d1 : Nat)), .int (6 + (d2 : Nat))])) p = some (.tup [.int 0, .int (1 + (d1 : Nat)), .int (6 + (d2 : Nat))]) := upd_same
      have nps : p ≠ s := fun z => by rw [z, upd_same] at hp; cases hp
      have t3 := tabs_sameS sm3 hu0 ts
      refine ⟨p, rfl, ⟨_, SqT.of hp3⟩, ?_⟩
      generalize (upd (upd (upd Hs s (.lst u1)) s (.lst u2)) p (.tup [.int 0, .int (1 + (d1 : Nat)), .int (6 + (d2 : Nat))])) = H3 at sm3 hs3 hp3 t3 ⊢
      refine for_tup (K := K) (a := p) (xs := [.int 0, .int (1 + (d1 : Nat)), .int (6 + (d2 : Nat))]) (fun j σ H' => (∃ o3 o4, σ = [some (.ref l), some (.int i), some (.ref s), o3, o4, none, none, none]) ∧ ExtS s H3 H' ∧ Tabs T H' ∧ Strm H' s (2 + 60000 * j)) ⟨⟨_, _, rfl⟩, ExtS.of (SameS.refl _), t3, hs3⟩ (fun j σ H' _ y => SqT.of (y.2.1 _ _ nps hp3 (fun _ z => nomatch z))) ?_ ?_
      · rintro j x σ H4 hx ⟨⟨o3, o4, rfl⟩, x4, t4, hs4⟩
        obtain ⟨m, rfl, hm⟩ : ∃ m : Nat, x = .int (m : Nat) ∧ m ≤ 13 := by
          match j, hx with
          | 0, hx => exact ⟨0, (Option.some.inj hx).symm, by omega⟩
          | 1, hx => exact ⟨1 + d1, (Option.some.inj hx).symm, by omega⟩
          | 2, hx => exact ⟨6 + d2, (Option.some.inj hx).symm, by omega⟩
          | j + 3, hx => simp at hx
        have hj : j < 3 := (List.getElem?_eq_some_iff.mp hx).1
        obtain ⟨u4, hu4⟩ := hs4.lst
        refine ⟨_, rfl, _, rfl, _, rfl, s, _, 2, rfl, hs4, by omega, by decide, by decide, fun u5 d5 hd5 hs5 => ⟨rfl, s, _, m, _, rfl, hs5, by omega, hm, fun H6 qv ps cw cg sm6 rq g hpl hs6 => ?_⟩⟩
        have t6 : Tabs T H6 := tabs_sameS sm6 upd_same (tabs_sameS (SameS.refl H4).upd hu4 t4)
        have x6 : ExtS s H3 H6 := x4.trans (ExtS.of ((SameS.refl H4).upd.trans sm6))
        have nS : ¬ (fun b => upd H4 s (.lst u5) b = none) s := fun z => by
          have z : upd H4 s (.lst u5) s = none := z
          rw [upd_same] at z
          cases z
        obtain ⟨r, _, rfl, _⟩ := id rq
        obtain ⟨u6, hu6⟩ := hs6.lst
        refine ⟨_, rfl, _, rfl, _, s, r, _, ps, cw, cg, rfl, hs6, by omega, rq, nS, g, t6, fun H7 x7 t7 hs7 => ⟨_, rfl, ?_⟩⟩
        refine iteF ?_
        obtain ⟨u7, hu7⟩ := hs7.lst
        have hq7 := Rep.mono (fun _ z => z) (extS_stay x7 hu6 nS) rq
        refine ⟨_, rfl, _, rfl, _, s, r, _, ps, cw, cg, rfl, hs7, by omega, hq7, nS, g, t7, fun H8 x8 t8 hs8 => ⟨_, rfl, ?_⟩⟩
        refine iteF ?_
        have hq8 := Rep.mono (fun _ z => z) (extS_stay x8 hu7 nS) hq7
        refine ⟨_, rfl, _, r, ps, cw, cg, rfl, hq8, g, t8, fun H9 x9 t9 => ⟨_, rfl, ?_⟩⟩
        refine iteF ?_
        exact ⟨⟨_, _, rfl⟩, ((x6.trans x7).trans x8).trans (ExtS.ofN x9), t9, (strm_extN hs8 x9).mono (by omega)⟩
      · rintro σ H10 ⟨⟨o5, o6, rfl⟩, x10, t10, hs10⟩
        have hs10 : Strm H10 s (2 + 60000 * 3) := hs10
        obtain ⟨u10, hu10⟩ := hs10.lst
        refine ⟨_, rfl, _, rfl, _, rfl, s, _, 5, rfl, hs10, by omega, by decide, by decide, fun u11 d11 hd11 hs11 => ⟨_, _, rfl, rfl, s, _, 1 + d11, true, rfl, hs11, by omega, by omega, fun H12 qv ps cw cg sm12 rq g hpl hs12 => ?_⟩⟩
        have t12 : Tabs T H12 := tabs_sameS sm12 upd_same (tabs_sameS (SameS.refl H10).upd hu10 t10)
        have x12 : ExtS s H3 H12 := x10.trans (ExtS.of ((SameS.refl H10).upd.trans sm12))
        have nS : ¬ (fun b => upd H10 s (.lst u11) b = none) s := fun z => by
          have z : upd H10 s (.lst u11) s = none := z
          rw [upd_same] at z
          cases z
        obtain ⟨r, _, rfl, _⟩ := id rq
        refine ⟨_, s, r, _, ps, cw, cg, rfl, hs12, by omega, rq, nS, g, by omega, t12, fun H13 x13 t13 hs13 => ⟨_, rfl, ?_⟩⟩
        refine iteF ?_
        exact ⟨⟨_, _, _, _, rfl⟩, t13, seqS hl1 hsn sm (((ExtS.of sm3).trans x12).trans x13)⟩
    · rintro σ H14 ⟨⟨o1, o2, o3, o4, rfl⟩, t14, _⟩
      have hT : ∀ {H : Hp} (p : Addr), H p = none → (fun _ : Addr => True) p := fun _ _ => trivial
      dsimp only
      refine run_setL (S := fun _ => True) (ds := hands1) ?_ rfl fun H15 vo s15 ro lo hlo => ?_
      · exact mkA_cons mk_str (mkA_cons mk_str (mkA_cons (mk_tup (mkA_cons mk_int (mkA_cons mk_int mkA_nil))) (mkA_cons (mk_lst hT (mkA_cons mk_int (mkA_cons mk_int mkA_nil))) (mkA_cons (mk_tup (mkA_cons mk_int (mkA_cons mk_int mkA_nil))) (mkA_cons (mk_tup (mkA_cons mk_int (mkA_cons mk_int mkA_nil))) (mkA_cons (mk_tup (mkA_cons mk_int (mkA_cons (mk_pow ⟨by decide, by decide, by decide⟩) mkA_nil)))
          (mkA_cons (mk_tup (mkA_cons mk_int (mkA_cons mk_int mkA_nil))) (mkA_cons (mk_tup (mkA_cons mk_int (mkA_cons mk_int mkA_nil))) (mkA_cons (mk_tup (mkA_cons mk_int (mkA_cons mk_int mkA_nil))) (mkA_cons (mk_tup (mkA_cons mk_neg (mkA_cons mk_int mkA_nil))) (mkA_cons (mk_tup (mkA_cons mk_int mkA_nil)) (mkA_cons (mk_tup mkA_nil) mkA_nil))))))))))))
      have s16 : Same H15 (upd H15 lo (.lst vo)) := Same.new hlo
      have h16 : upd H15 lo (.lst vo) lo = some (.lst vo) := upd_same
      have ro16 : Reps (fun b => b ≠ lo) (upd H15 lo (.lst vo)) hands1 vo := Reps.mono (fun b z => fun q => z.2 (q ▸ hlo)) (stay_of s16) ro.here
      generalize upd H15 lo (.lst vo) = H16 at h16 ro16 ⊢
      have hS16 : ∀ p, H16 p = none → p ≠ lo := fun p hp z => by rw [z, h16] at hp; cases hp
      refine run_extend (S := fun b => b ≠ lo) (i := 5) (ds := hands2) rfl h16 ?_ (by rw [ro16.length]; show 13 + 13 ≤ 1000; decide) fun H17 u17 s17 r17 => ?_
      · exact mk_lst hS16 (mkA_cons mk_non (mkA_cons mk_int (mkA_cons mk_str (mkA_cons mk_str (mkA_cons mk_str (mkA_cons mk_dnew (mkA_cons mk_bl (mkA_cons (mk_tup (mkA_cons mk_bl (mkA_cons mk_int mkA_nil))) (mkA_cons (mk_tup (mkA_cons mk_int (mkA_cons mk_bl mkA_nil))) (mkA_cons (mk_tup (mkA_cons mk_int (mkA_cons mk_str mkA_nil)))
          (mkA_cons (mk_tup (mkA_cons mk_int (mkA_cons mk_int (mkA_cons mk_int mkA_nil)))) (mkA_cons (mk_lst hS16 (mkA_cons mk_str mkA_nil)) (mkA_cons (mk_tup (mkA_cons mk_int (mkA_cons mk_non mkA_nil))) mkA_nil)))))))))))))
      have h17 := s17 _ _ h16
      have st : Stay (fun b => b ≠ lo) H17 (upd H17 lo (.lst (vo ++ u17))) := stay_upd h17 (nd_lst fun z => z rfl)
      have ov : Rep (fun _ => True) (upd H17 lo (.lst (vo ++ u17))) (.lst (hands1 ++ hands2)) (.ref lo) := ⟨lo, _, rfl, trivial, upd_same, Reps.append (Reps.mono (fun _ _ => trivial) st (ro16.same s17)) (Reps.mono (fun _ _ => trivial) st r17)⟩
      generalize upd H17 lo (.lst (vo ++ u17)) = H18 at ov ⊢
      have len26 : (hands1 ++ hands2).length = 26 := rfl
      refine run_set (S := fun _ => True) (d := .lst (wantB.map D.bl)) ?_ fun H19 fv s19 rf => ?_
      · refine mk_eq (mk_cat hT (mk_lcL (ds := hands1 ++ hands2) (es := (hands1 ++ hands2).map fun d => D.bl d.isHand) hT (mk_var rfl ov) (by rw [List.length_map]) (by rw [len26]; decide) fun S' H2 j d e v s2 hS' hC hd he rv Q' hQ => ?_) (mk_lst hT (mkA_cons (mk_handK mk_str) mkA_nil)) (by rw [List.length_map, len26]; decide)) (congrArg D.lst found_ok)
        rw [List.getElem?_map, hd] at he
        cases he
        exact hQ _ rfl (mk_hand (mk_var rfl rv))
      · have ov19 := ov.same s19
        refine run_retCall (S := fun _ => True) (ds := [.lst (wantB.map D.bl), .lst (wantB.map D.bl)]) ?_ fun H20 vs s20 rs => ?_
        · refine mkA_cons (mk_var rfl rf) (mkA_cons (mk_eq (mk_cat hT (mk_cat hT (mk_rep (k := 7) hT (mk_lst hT (mkA_cons mk_bl mkA_nil)) mk_int (by decide) (by decide)) (mk_rep (k := 19) hT (mk_lst hT (mkA_cons mk_bl mkA_nil)) (mk_eq (mk_subI (mk_eq (mk_len (ds := hands1 ++ hands2) (mk_var rfl ov19) rfl) rfl) mk_int) rfl) (by decide) (by decide)) (by decide)) (mk_lst hT (mkA_cons mk_bl mkA_nil)) (by decide)) (congrArg D.lst want_ok)) mkA_nil)
        · obtain ⟨v1, _, rfl, q1, v2, _, rfl, q2, rfl⟩ := rs
          exact ⟨fun _ => True, fun _ => True, .lst (wantB.map D.bl), v1, v2, rfl, q1, q2, oks_mem (n := 0) fun d hd => by
            obtain ⟨b, _, rfl⟩ := List.mem_map.mp hd
            exact ok_bl, Nat.le_of_ble_eq_true rfl, fun H' _ => k H'⟩
end
end Q1

set_option Elab.async false
set_option maxRecDepth 100000
set_option maxHeartbeats 4000000
namespace Q1
open PySem PySem.Spec PyProof.Rows L2 LamX
/-! ### the end for a law that shows things: nothing is being shown at its call -/
/-- what is tracked at the law's call: the empty tables, the script where the head doesn't know it -/
def startH (K : PySem.W.Frag) (a : Addr) (o : Obj) (xs : List V) (ts : List Addr) : Hp := fun b => if b ∈ ts then some (.tbl #[]) else if b = a ∧ K.lookup a = none then some (.frz o (.lst xs)) else none
theorem startH_tab {K : PySem.W.Frag} {a b : Addr} {o : Obj} {xs : List V} {ts : List Addr} (h : b ∈ ts) : startH K a o xs ts b = some (.tbl #[]) := if_pos h
theorem startH_cases {K : PySem.W.Frag} {a b : Addr} {o : Obj} {xs : List V} {ts : List Addr} {u : HO} (h : startH K a o xs ts b = some u) : (b ∈ ts ∧ u = .tbl #[]) ∨ (b ∉ ts ∧ b = a ∧ K.lookup a = none ∧ u = .frz o (.lst xs)) := by
  unfold startH at h
  by_cases hb : b ∈ ts
  · rw [if_pos hb] at h
    cases h
    exact .inl ⟨hb, rfl⟩
  · rw [if_neg hb] at h
    by_cases hc : b = a ∧ K.lookup a = none
    · rw [if_pos hc] at h
      cases h
      exact .inr ⟨hb, hc.1, hc.2, rfl⟩
    · rw [if_neg hc] at h
      cases h
section
variable {P : Program} {w : World} {K : PySem.W.Frag} {mg mb : Str → Option Value} {k : Nat} {fa a : Addr} {tabs : List (Addr × Addr)} {fd : FuncData} {x : Str} {sp : Sp} {st : Shared} {vs : List Value} {ns : List Int}
/-- an object without class and fields: a table that nothing has been put into -/
abbrev emptyTab : Obj := { cls := .none, data := .fields #[] }
/-- what stands at the law's call -/
structure AtCall (K : PySem.W.Frag) (mg mb : Str → Option Value) (tabs : List (Addr × Addr)) (st : Shared) (a : Addr) (vs : List Value) (ns : List Int) : Prop where
  known : K.In st.heap
  top : st.heap.Ns mainGlobals mg
  blt : st.heap.Ns builtinsNs mb
  same : ∀ x : Str, x ≠ "__name__" → mb x = bootBuiltins x
  lim : st.heap.NoLimit
  gens : st.gens = #[]
  tab : ∀ p ∈ tabs, st.heap.get? p.2 = some emptyTab ∧ K.lookup p.2 = none ∧ PySem.W.CodeHd st.heap p.1 p.2
  main : ∃ (bm : Addr) (ob : Obj), (mg "__builtins__" = some (.ref bm) ∧ bm ≠ builtinsNs) ∧ st.heap.get? bm = some ob ∧ ob.cls = .type "module" ∧ ob.dict = some builtinsNs ∧ ob.data = .plain
  script : st.heap.get? a = some { cls := .type "list", data := .seq vs.toArray }
  whole : IntsAre vs ns
  size : ns.length ≤ sizeLine
theorem call_endG (hc : AtCall K mg mb tabs st a vs ns) (room : Room k callerA)
    (F : ∀ base : Heap, K.In base → base.Ns mainGlobals mg → (∀ p ∈ tabs, TabB base mg p.1 p.2) → FnG P w K mg base CX0 k fa fd [x] sp) (bnd : ∀ (z : Shared) (u : Value), BindsTo z fd ⟨[u], []⟩ [(x, u)])
    (start : ∀ H : Hp, (∀ p ∈ tabs, H p.2 = some (.tbl #[])) → SqL K H a (ns.map V.int) → sp [.ref a] H (fun v _ => v = .bl true) fun _ _ _ => False) :
    codeAny (model P w) callerA (.call (.ref fa) ⟨[.ref a], []⟩) (fun res fin => res = .ok (.ret (.bool true)) ∧ OldK st.heap fin.heap ∧ fin.os = st.os ∧ AllBare fin.gens) st := by
  obtain ⟨KX, hns, hb, hbb, hlim, hg, tb, hbm, ha, hi, hl⟩ := hc
  have rv := vals_ints hi
  have lenV := hi.length
  have tabAt : ∀ b, b ∈ tabs.map (·.2) → st.heap.get? b = some { cls := .none, data := .fields #[] } ∧ K.lookup b = none ∧ ∃ c, PySem.W.CodeHd st.heap c b := fun b hb => by
    obtain ⟨p, hp, rfl⟩ := List.mem_map.mp hb
    exact ⟨(tb p hp).1, (tb p hp).2.1, p.1, (tb p hp).2.2⟩
  have inT : ∀ p ∈ tabs, p.2 ∈ tabs.map (·.2) := fun p hp => List.mem_map_of_mem hp
  have naT : a ∉ tabs.map (·.2) := fun z => by
    have q := (tabAt a z).1
    rw [ha] at q
    have q2 : Data.seq vs.toArray _ = Data.fields #[] := congrArg Obj.data (Option.some.inj q)
    cases q2
  generalize hH : startH K a { cls := .type "list", data := .seq vs.toArray } (ns.map V.int) (tabs.map (·.2)) = H
  have tabH : ∀ p ∈ tabs, H p.2 = some (.tbl #[]) := fun p hp => hH ▸ startH_tab (inT p hp)
  have casesH : ∀ {b u}, H b = some u → (b ∈ tabs.map (·.2) ∧ u = .tbl #[]) ∨ (b ∉ tabs.map (·.2) ∧ b = a ∧ K.lookup a = none ∧ u = .frz { cls := .type "list", data := .seq vs.toArray } (.lst (ns.map V.int))) := fun {b u} q => startH_cases (by rw [hH]; exact q)
  have seqH : SqL K H a (ns.map V.int) := by
    cases hk : K.lookup a with
    | none => exact .inl (.inr ⟨_, by rw [← hH]; unfold startH; rw [if_neg naT, if_pos ⟨rfl, hk⟩]⟩)
    | some o =>
      have e := KX a o hk
      rw [ha] at e
      cases e
      exact .inr ⟨_, vs.toArray, _, hk, rfl, rfl, rfl, by rw [List.size_toArray, lenV]; exact hl, by simpa using rv⟩
  have okH : HOk P w H st.heap := fun b u q => by
    rcases casesH q with ⟨hb, rfl⟩ | ⟨_, rfl, _, rfl⟩
    · exact (tabAt b hb).1
    · exact ⟨ha, by rw [List.length_map]; exact hl, vs, _, rv, ha⟩
  have seen : ∀ {b : Addr} {o : Obj}, st.heap.get? b = some o → H b = none → (hidT st.heap H).get? b = some o := fun e n => hidT_get e n
  have free : ∀ {b : Addr} {o : Obj}, st.heap.get? b = some o → (∀ vs n, o.data ≠ .seq vs n) → o.data ≠ .fields #[] → H b = none := fun {b o} e h1 h2 => by
    cases q : H b with
    | none => rfl
    | some u =>
      rcases casesH q with ⟨hb, _⟩ | ⟨_, rfl, _, _⟩
      · have z := (tabAt b hb).1
        rw [e] at z
        cases z
        exact (h2 rfl).elim
      · rw [ha] at e
        cases e
        exact (h1 _ _ rfl).elim
  have freeD : ∀ {b : Addr} {o : Obj} {es : Array DictEntry} {ep : Nat}, st.heap.get? b = some o → o.data = .dict es ep → H b = none := fun {b o es ep} e d => free e (fun vs n z => by rw [d] at z; cases z) (fun z => by rw [d] at z; cases z)
  have nsB : ∀ {b : Addr} {m : Str → Option Value}, st.heap.Ns b m → (hidT st.heap H).Ns b m := fun {b m} ⟨o, es, ep, e, d, r⟩ => ⟨o, es, ep, seen e (freeD e d), d, r⟩
  have kinB : K.In (hidT st.heap H) := fun b o e => seen (KX b o e) (by
    cases q : H b with
    | none => rfl
    | some u =>
      rcases casesH q with ⟨hb, _⟩ | ⟨_, rfl, hk, _⟩
      · rw [(tabAt b hb).2.1] at e
        cases e
      · rw [hk] at e
        cases e)
  have modB : L2.Mod K mg (hidT st.heap H) := ⟨kinB, nsB hns, ⟨mb, nsB hb, hbb⟩, let ⟨mc, h1, h2⟩ := hlim; ⟨mc, nsB h1, h2⟩⟩
  have tabB : ∀ p ∈ tabs, TabB (hidT st.heap H) mg p.1 p.2 := fun p hp => by
    have hTp := (tb p hp).1
    obtain ⟨go, ges, gep, ge, gd, _⟩ := id hns
    refine ⟨?_, ?_, fun z => ?_⟩
    · obtain ⟨o, us, fi, tf, fl, tg, iF, tx, tt, e1, r1, r2, r3, r4, r5, r6, r7, r8, hne⟩ := (tb p hp).2.2
      refine ⟨o, us, fi, tf, fl, tg, iF, tx, tt, seen e1 (free e1 (fun vs n z => ?_) fun z => ?_), r1, r2, r3, r4, r5, r6, r7, r8, hne⟩
      · rw [r2] at z
        cases z
      · rw [r2] at z
        cases z
        simp at r3
    · obtain ⟨bm, ob, ⟨b1, b2⟩, b3, b4, b5, b6⟩ := hbm
      refine ⟨bm, ob, b1, b2, fun q => ?_, fun q => ?_, seen b3 (free b3 (fun vs n z => by rw [b6] at z; cases z) fun z => by rw [b6] at z; cases z), b4, b5, b6⟩
      · rw [q, ge] at b3
        cases b3
        rw [gd] at b6
        cases b6
      · rw [q, hTp] at b3
        cases b3
        cases b6
    · rw [z, hTp] at ge
      cases ge
      cases gd
  have e0 : Env0 P w K mg (hidT st.heap H) callerA [] st H := ⟨rfl, modB, fun b o e => of_hidT e, Nat.le_of_eq (hidT_size _ _), trivial, fun b hb => absurd (show b ∈ ([] : List Addr) from hb) (by simp), okH, .of_eq hg⟩
  refine codeAny_mono ((F _ kinB (nsB hns) tabB).run callerA [] st H ⟨[.ref a], []⟩ [.ref a] [.ref a] _ _ rfl room e0 (bnd st (.ref a)) (.cons rfl .nil) (start H tabH seqH)) fun r fin h => ?_
  cases r with
  | error e => exact False.elim h
  | ok fl =>
    cases fl with
    | next => exact False.elim h
    | brk => exact False.elim h
    | cont => exact False.elim h
    | ret u =>
      obtain ⟨v, H2, hos, hbare, un, hok2, rr, q⟩ := h
      obtain rfl : v = .bl true := q
      cases (show u = Value.bool true from rr)
      have stays : ∀ b o, b ∉ tabs.map (·.2) → st.heap.get? b = some o → fin.heap.get? b = some o := fun b o nb e => by
        cases q : H b with
        | none => exact un.keep b o e q (fun z => nomatch (show b ∈ ([] : List Addr) from z)) (by simp)
        | some u =>
          rcases casesH q with ⟨hb, _⟩ | ⟨_, rfl, _, rfl⟩
          · exact absurd hb nb
          · obtain ⟨e2, _⟩ := hok2 b _ (un.frzs b _ _ q)
            rw [ha] at e
            cases e
            exact e2
      have grows : ∀ b, b ∈ tabs.map (·.2) → ∃ more : Array Value, fin.heap.get? b = some { cls := .none, data := .fields more } := fun b hb => by
        obtain ⟨p, hp, rfl⟩ := List.mem_map.mp hb
        obtain ⟨more, z⟩ := un.tbls p.2 #[] (tabH p hp)
        exact ⟨_, hok2 p.2 _ z⟩
      refine ⟨rfl, ⟨fun b o e => ?_, fun b o e => ?_⟩, hos, hbare⟩
      · by_cases hb : b ∈ tabs.map (·.2)
        · obtain ⟨t1, _, c, t3⟩ := tabAt b hb
          obtain ⟨more, hm⟩ := grows b hb
          rw [t1] at e
          cases e
          exact .inr (.inl ⟨(t3.tab t1).isCodeTable, rfl, #[], more, rfl, by rw [Array.empty_append]; exact hm⟩)
        · exact .inl (stays b o hb e)
      · by_cases hb : b ∈ tabs.map (·.2)
        · obtain ⟨more, hm⟩ := grows b hb
          exact ⟨_, hm⟩
        · exact ⟨o, stays b o hb e⟩
end
/-- what the head's heap h must give for the law that stands at fa -/
def LawG (l : PySem.W.OpenLaw) (w : World) (K : PySem.W.Frag) (k n : Nat) (x : Str) (mg : Str → Option Value) (fa : Addr) (h : Heap) : Prop :=
  ∃ (fd : FuncData) (tabs : List (Addr × Addr)) (sp : Sp), (∀ p ∈ tabs, h.get? p.2 = some emptyTab ∧ K.lookup p.2 = none ∧ PySem.W.CodeHd h p.1 p.2) ∧ (∀ (z : Shared) (u : Value), BindsTo z fd ⟨[u], []⟩ [(x, u)]) ∧
    (∀ (H : Hp) (a : Addr) (ns : List Int), ns.length ≤ n → (∀ p ∈ tabs, H p.2 = some (.tbl #[])) → SqL K H a (ns.map V.int) → sp [.ref a] H (fun v _ => v = .bl true) fun _ _ _ => False) ∧
    ∀ base : Heap, K.In base → base.Ns mainGlobals mg → (∀ p ∈ tabs, TabB base mg p.1 p.2) → FnG l.prog w K mg base CX0 k fa fd [x] sp
end Q1

set_option Elab.async false
set_option maxRecDepth 100000
set_option maxHeartbeats 4000000
namespace Q1
open PySem PySem.Spec PyProof.Rows L2 LamX
/-- what is said of the code objects of defs that hold a lambda -/
def HTab (K : PySem.W.Frag) (mg : Str → Option Value) (h : Heap) (names : List Str) : Prop := ∀ nm ∈ names, ∀ (fa c P : Addr) (o : Obj) (fd : FuncData) (e : Value) (dd : Option Addr) (vs : Array Value) (sl : Array (Option Value)), mg nm = some (.ref fa) → K.lookup fa = some o → o.data = .func fd → fd.code = .ref c → K.lookup c = some ⟨e, dd, .fields vs, sl⟩ → vs[11]? = some (.ref P) →
  h.get? P = some { cls := .none, data := .fields #[] } ∧ PySem.W.CodeHd h c P
theorem walkH {l : PySem.W.OpenLaw} {n k : Nat} {q : Program} {loose : List Str} {XP : (Str → Option Value) → Heap → Prop} {YP : World → Heap → Prop} {dr : DefRec} {K : Params → PySem.W.Frag} {x : Str} {names : List Str}
    (most : l.most = some n) (small : n ≤ sizeLine) (plain : dr.params.defaults = []) (room : Room k callerA) (recs : (names.all fun nm => (recsOf q).any fun e => e.name == nm) = true) (inK : ∀ (w : World) (h : Heap), YP w h → (K w.params).In h)
    (give : ∀ (w : World) (mg : Str → Option Value) (fa : Addr) (h : Heap), (K w.params).In h → h.Ns mainGlobals mg → mg dr.name = some (.ref fa) → HTab (K w.params) mg h names → LawG l w (K w.params) k n x mg fa h) :
    PySem.W.WalkO q loose XP YP l.row.toRowW dr [] fun f vs => PySem.call f vs := by
  refine Att.attach_callB most plain fun w _ st mg mb fa _ _ _ _ a vs ns gr yp _ _ _ hmg script whole len _ gens => ?_
  have kin := inK w _ yp
  have HT : HTab (K w.params) mg st.heap names := fun nm hnm fa2 c P o1 fd1 e dd vs1 sl k0 k1 k2 k3 k4 k5 => by
    obtain ⟨rec, hm, hq⟩ := List.any_eq_true.mp (List.all_eq_true.mp recs nm hnm)
    cases (show rec.name = nm from beq_iff_eq.mp hq)
    obtain ⟨_, _, _, _, _, j1, j2, j3, j4, j5, j6⟩ := gr.T.tab rec hm
    rw [k0] at j1
    cases j1
    rw [kin _ _ k1] at j2
    cases j2
    rw [k2] at j3
    cases j3
    rw [k3] at j4
    cases j4
    have hc := PySem.W.CodeHd.of j5 j6
    obtain ⟨⟨_, _, i1, _, i2, i3⟩, i4⟩ := j6
    rw [kin _ _ k4] at i1
    cases i1
    cases i2
    rw [k5] at i3
    cases i3
    exact ⟨i4, hc⟩
  obtain ⟨fd, tabs, sp, tab, bnd, start, F⟩ := give w mg fa _ kin gr.T.g hmg HT
  obtain ⟨bm, ob, b1, b2, b3, b4⟩ := gr.T.bmain
  exact call_endG ⟨kin, gr.T.g, gr.T.b, gr.T.builtins, gr.T.nolimit, gens, tab, ⟨bm, ob, ⟨b1, b2⟩, b3, b4⟩, script, whole, Nat.le_trans len small⟩ room F bnd (fun H hH hS => start H a ns len hH hS)
def lamNames : List Str := ["in_marks_order", "_law_ordered", "_law_refused_right"]
theorem law_mk {l : PySem.W.OpenLaw} {w : World} {K : PySem.W.Frag} {h : Heap} {mg : Str → Option Value} {fa : Addr}
    {f_law : Addr} {od_law an_law : Option Addr} {sl_law : Array (Option Value)} {oc_law kV_law dc_law pm_law cd_law ct_law : Value}
    {f_st : Addr} {od_st an_st : Option Addr} {sl_st : Array (Option Value)} {oc_st kV_st dc_st pm_st cd_st ct_st : Value}
    {f_qd : Addr} {od_qd an_qd : Option Addr} {sl_qd : Array (Option Value)} {oc_qd kV_qd dc_qd pm_qd cd_qd ct_qd : Value}
    {f_dr : Addr} {od_dr an_dr : Option Addr} {sl_dr : Array (Option Value)} {oc_dr kV_dr dc_dr pm_dr cd_dr ct_dr : Value}
    {f_pk : Addr} {od_pk an_pk : Option Addr} {sl_pk : Array (Option Value)} {oc_pk kV_pk dc_pk pm_pk cd_pk ct_pk : Value}
    {f_mx : Addr} {od_mx an_mx : Option Addr} {sl_mx : Array (Option Value)} {oc_mx kV_mx dc_mx pm_mx cd_mx ct_mx : Value}
    {f_qn : Addr} {od_qn an_qn : Option Addr} {sl_qn : Array (Option Value)} {oc_qn kV_qn dc_qn pm_qn cd_qn ct_qn : Value}
    {f_qh : Addr} {od_qh an_qh : Option Addr} {sl_qh : Array (Option Value)} {oc_qh kV_qh dc_qh pm_qh cd_qh ct_qh : Value}
    {f_qc : Addr} {od_qc an_qc : Option Addr} {sl_qc : Array (Option Value)} {oc_qc kV_qc dc_qc pm_qc cd_qc ct_qc : Value}
    {f_qcs : Addr} {od_qcs an_qcs : Option Addr} {sl_qcs : Array (Option Value)} {oc_qcs kV_qcs dc_qcs pm_qcs cd_qcs ct_qcs : Value}
    {f_to : Addr} {od_to an_to : Option Addr} {sl_to : Array (Option Value)} {oc_to kV_to dc_to pm_to cd_to ct_to : Value}
    {f_sa : Addr} {od_sa an_sa : Option Addr} {sl_sa : Array (Option Value)} {oc_sa kV_sa dc_sa pm_sa cd_sa ct_sa : Value}
    {f_pa : Addr} {od_pa an_pa : Option Addr} {sl_pa : Array (Option Value)} {oc_pa kV_pa dc_pa pm_pa cd_pa ct_pa : Value}
    {f_la : Addr} {od_la an_la : Option Addr} {sl_la : Array (Option Value)} {oc_la kV_la dc_la pm_la cd_la ct_la : Value}
    {f_lo : Addr} {od_lo an_lo : Option Addr} {sl_lo : Array (Option Value)} {oc_lo kV_lo dc_lo pm_lo cd_lo ct_lo : Value}
    {f_li : Addr} {od_li an_li : Option Addr} {sl_li : Array (Option Value)} {oc_li kV_li dc_li pm_li cd_li ct_li : Value}
    {f_ma : Addr} {od_ma an_ma : Option Addr} {sl_ma : Array (Option Value)} {oc_ma kV_ma dc_ma pm_ma cd_ma ct_ma : Value}
    {f_ne : Addr} {od_ne an_ne : Option Addr} {sl_ne : Array (Option Value)} {oc_ne kV_ne dc_ne pm_ne cd_ne ct_ne : Value}
    {f_on : Addr} {od_on an_on : Option Addr} {sl_on : Array (Option Value)} {oc_on kV_on dc_on pm_on cd_on ct_on : Value}
    {f_ap : Addr} {od_ap an_ap : Option Addr} {sl_ap : Array (Option Value)} {oc_ap kV_ap dc_ap pm_ap cd_ap ct_ap : Value}
    {f_me : Addr} {od_me an_me : Option Addr} {sl_me : Array (Option Value)} {oc_me kV_me dc_me pm_me cd_me ct_me : Value}
    {f_bm : Addr} {od_bm an_bm : Option Addr} {sl_bm : Array (Option Value)} {oc_bm kV_bm dc_bm pm_bm cd_bm ct_bm : Value}
    {f_bc : Addr} {od_bc an_bc : Option Addr} {sl_bc : Array (Option Value)} {oc_bc kV_bc dc_bc pm_bc cd_bc ct_bc : Value}
    {f_il : Addr} {od_il an_il : Option Addr} {sl_il : Array (Option Value)} {oc_il kV_il dc_il pm_il cd_il ct_il : Value}
    {f_it : Addr} {od_it an_it : Option Addr} {sl_it : Array (Option Value)} {oc_it kV_it dc_it pm_it cd_it ct_it : Value}
    {f_ii : Addr} {od_ii an_ii : Option Addr} {sl_ii : Array (Option Value)} {oc_ii kV_ii dc_ii pm_ii cd_ii ct_ii : Value}
    {f_in_ : Addr} {od_in_ an_in_ : Option Addr} {sl_in_ : Array (Option Value)} {oc_in_ kV_in_ dc_in_ pm_in_ cd_in_ ct_in_ : Value}
    {f_ll : Addr} {od_ll an_ll : Option Addr} {sl_ll : Array (Option Value)} {oc_ll kV_ll dc_ll pm_ll cd_ll ct_ll : Value}
    {f_co : Addr} {od_co an_co : Option Addr} {sl_co : Array (Option Value)} {oc_co kV_co dc_co pm_co cd_co ct_co : Value}
    {f_tu : Addr} {od_tu an_tu : Option Addr} {sl_tu : Array (Option Value)} {oc_tu kV_tu dc_tu pm_tu cd_tu ct_tu : Value}
    {f_bi : Addr} {od_bi an_bi : Option Addr} {sl_bi : Array (Option Value)} {oc_bi kV_bi dc_bi pm_bi cd_bi ct_bi : Value}
    {f_ih : Addr} {od_ih an_ih : Option Addr} {sl_ih : Array (Option Value)} {oc_ih kV_ih dc_ih pm_ih cd_ih ct_ih : Value}
    {f_fm : Addr} {od_fm an_fm : Option Addr} {sl_fm : Array (Option Value)} {oc_fm kV_fm dc_fm pm_fm cd_fm ct_fm : Value}
    {f_fc : Addr} {od_fc an_fc : Option Addr} {sl_fc : Array (Option Value)} {oc_fc kV_fc dc_fc pm_fc cd_fc ct_fc : Value}
    {f_oc : Addr} {od_oc an_oc : Option Addr} {sl_oc : Array (Option Value)} {oc_oc kV_oc dc_oc pm_oc cd_oc ct_oc : Value}
    {cc_or t_or : Addr} {e_or : Value} {dd_or : Option Addr} {vs_or : Array Value} {s2_or : Array (Option Value)}
    {f_or : Addr} {od_or an_or : Option Addr} {sl_or : Array (Option Value)} {oc_or kV_or dc_or pm_or ct_or : Value}
    {cc_od t_od : Addr} {e_od : Value} {dd_od : Option Addr} {vs_od : Array Value} {s2_od : Array (Option Value)}
    {f_od : Addr} {od_od an_od : Option Addr} {sl_od : Array (Option Value)} {oc_od kV_od dc_od pm_od ct_od : Value}
    {cc_rf t_rf : Addr} {e_rf : Value} {dd_rf : Option Addr} {vs_rf : Array Value} {s2_rf : Array (Option Value)}
    {f_rf : Addr} {od_rf an_rf : Option Addr} {sl_rf : Array (Option Value)} {oc_rf kV_rf dc_rf pm_rf ct_rf : Value}
    {C_e2 : Addr} 
    {f_e2 : Addr} {od_e2 an_e2 : Option Addr} {sl_e2 : Array (Option Value)} {oc_e2 kV_e2 dc_e2 pm_e2 cd_e2 ct_e2 : Value}
    {C_e3 : Addr} 
    {f_e3 : Addr} {od_e3 an_e3 : Option Addr} {sl_e3 : Array (Option Value)} {oc_e3 kV_e3 dc_e3 pm_e3 cd_e3 ct_e3 : Value}
    {C_e4 : Addr} 
    {f_e4 : Addr} {od_e4 an_e4 : Option Addr} {sl_e4 : Array (Option Value)} {oc_e4 kV_e4 dc_e4 pm_e4 cd_e4 ct_e4 : Value}
    {CQ : Addr}
    {f_qi : Addr} {od_qi an_qi : Option Addr} {sl_qi : Array (Option Value)} {oc_qi kV_qi dc_qi pm_qi cd_qi ct_qi : Value}
    {f_qm : Addr} {od_qm an_qm : Option Addr} {sl_qm : Array (Option Value)} {oc_qm kV_qm dc_qm pm_qm cd_qm ct_qm : Value}
    {f_qw : Addr} {od_qw an_qw : Option Addr} {sl_qw : Array (Option Value)} {oc_qw kV_qw dc_qw pm_qw cd_qw ct_qw : Value}
    {f_qg : Addr} {od_qg an_qg : Option Addr} {sl_qg : Array (Option Value)} {oc_qg kV_qg dc_qg pm_qg cd_qg ct_qg : Value}
    {f_qe : Addr} {od_qe an_qe : Option Addr} {sl_qe : Array (Option Value)} {oc_qe kV_qe dc_qe pm_qe cd_qe ct_qe : Value}
    {tk1 tk2 tk3 : Tok}
    (X : K.In h) (G : h.Ns mainGlobals mg) (hfa : mg "law" = some (.ref fa)) (HT : HTab K mg h lamNames)
    (a_law : PySem.W.nsIn K mainGlobals "law" = some (some (.ref f_law)))
    (l_law : K.lookup f_law = some ⟨oc_law, od_law, .func (PySem.W.fnOf "law" "law" (defArgs sLaw) (defBody sLaw) (defScope sLaw) .none kV_law dc_law pm_law an_law cd_law ct_law), sl_law⟩)
    (c_law : PySem.W.codeIn K cd_law "law" = true)
    (k_law : PySem.W.keepIn K (.ref f_law) = true)
    (a_st : PySem.W.nsIn K mainGlobals "_law_stream" = some (some (.ref f_st)))
    (l_st : K.lookup f_st = some ⟨oc_st, od_st, .func (PySem.W.fnOf "_law_stream" "_law_stream" (defArgs sStream) (defBody sStream) (defScope sStream) .none kV_st dc_st pm_st an_st cd_st ct_st), sl_st⟩)
    (c_st : PySem.W.codeIn K cd_st "_law_stream" = true)
    (k_st : PySem.W.keepIn K (.ref f_st) = true)
    (a_qd : PySem.W.nsIn K mainGlobals "_law_q_drawn" = some (some (.ref f_qd)))
    (l_qd : K.lookup f_qd = some ⟨oc_qd, od_qd, .func (PySem.W.fnOf "_law_q_drawn" "_law_q_drawn" (defArgs sQDrawn) (defBody sQDrawn) (defScope sQDrawn) .none kV_qd dc_qd pm_qd an_qd cd_qd ct_qd), sl_qd⟩)
    (c_qd : PySem.W.codeIn K cd_qd "_law_q_drawn" = true)
    (k_qd : PySem.W.keepIn K (.ref f_qd) = true)
    (a_dr : PySem.W.nsIn K mainGlobals "_law_draw" = some (some (.ref f_dr)))
    (l_dr : K.lookup f_dr = some ⟨oc_dr, od_dr, .func (PySem.W.fnOf "_law_draw" "_law_draw" (defArgs sDraw) (defBody sDraw) (defScope sDraw) .none kV_dr dc_dr pm_dr an_dr cd_dr ct_dr), sl_dr⟩)
    (c_dr : PySem.W.codeIn K cd_dr "_law_draw" = true)
    (k_dr : PySem.W.keepIn K (.ref f_dr) = true)
    (a_pk : PySem.W.nsIn K mainGlobals "_law_pick" = some (some (.ref f_pk)))
    (l_pk : K.lookup f_pk = some ⟨oc_pk, od_pk, .func (PySem.W.fnOf "_law_pick" "_law_pick" (defArgs sPick) (defBody sPick) (defScope sPick) .none kV_pk dc_pk pm_pk an_pk cd_pk ct_pk), sl_pk⟩)
    (c_pk : PySem.W.codeIn K cd_pk "_law_pick" = true)
    (k_pk : PySem.W.keepIn K (.ref f_pk) = true)
    (a_mx : PySem.W.nsIn K mainGlobals "_law_mixed" = some (some (.ref f_mx)))
    (l_mx : K.lookup f_mx = some ⟨oc_mx, od_mx, .func (PySem.W.fnOf "_law_mixed" "_law_mixed" (defArgs sMixed) (defBody sMixed) (defScope sMixed) .none kV_mx dc_mx pm_mx an_mx cd_mx ct_mx), sl_mx⟩)
    (c_mx : PySem.W.codeIn K cd_mx "_law_mixed" = true)
    (k_mx : PySem.W.keepIn K (.ref f_mx) = true)
    (a_qn : PySem.W.nsIn K mainGlobals "_law_q_names" = some (some (.ref f_qn)))
    (l_qn : K.lookup f_qn = some ⟨oc_qn, od_qn, .func (PySem.W.fnOf "_law_q_names" "_law_q_names" (defArgs sQNames) (defBody sQNames) (defScope sQNames) .none kV_qn dc_qn pm_qn an_qn cd_qn ct_qn), sl_qn⟩)
    (c_qn : PySem.W.codeIn K cd_qn "_law_q_names" = true)
    (k_qn : PySem.W.keepIn K (.ref f_qn) = true)
    (a_qh : PySem.W.nsIn K mainGlobals "_law_q_hand" = some (some (.ref f_qh)))
    (l_qh : K.lookup f_qh = some ⟨oc_qh, od_qh, .func (PySem.W.fnOf "_law_q_hand" "_law_q_hand" (defArgs sQHand) (defBody sQHand) (defScope sQHand) .none kV_qh dc_qh pm_qh an_qh cd_qh ct_qh), sl_qh⟩)
    (c_qh : PySem.W.codeIn K cd_qh "_law_q_hand" = true)
    (k_qh : PySem.W.keepIn K (.ref f_qh) = true)
    (a_qc : PySem.W.nsIn K mainGlobals "_law_q_clause" = some (some (.ref f_qc)))
    (l_qc : K.lookup f_qc = some ⟨oc_qc, od_qc, .func (PySem.W.fnOf "_law_q_clause" "_law_q_clause" (defArgs sQClause) (defBody sQClause) (defScope sQClause) .none kV_qc dc_qc pm_qc an_qc cd_qc ct_qc), sl_qc⟩)
    (c_qc : PySem.W.codeIn K cd_qc "_law_q_clause" = true)
    (k_qc : PySem.W.keepIn K (.ref f_qc) = true)
    (a_qcs : PySem.W.nsIn K mainGlobals "_law_q_clauses" = some (some (.ref f_qcs)))
    (l_qcs : K.lookup f_qcs = some ⟨oc_qcs, od_qcs, .func (PySem.W.fnOf "_law_q_clauses" "_law_q_clauses" (defArgs sQClauses) (defBody sQClauses) (defScope sQClauses) .none kV_qcs dc_qcs pm_qcs an_qcs cd_qcs ct_qcs), sl_qcs⟩)
    (c_qcs : PySem.W.codeIn K cd_qcs "_law_q_clauses" = true)
    (k_qcs : PySem.W.keepIn K (.ref f_qcs) = true)
    (a_to : PySem.W.nsIn K mainGlobals "_law_told_right" = some (some (.ref f_to)))
    (l_to : K.lookup f_to = some ⟨oc_to, od_to, .func (PySem.W.fnOf "_law_told_right" "_law_told_right" (defArgs sTold) (defBody sTold) (defScope sTold) .none kV_to dc_to pm_to an_to cd_to ct_to), sl_to⟩)
    (c_to : PySem.W.codeIn K cd_to "_law_told_right" = true)
    (k_to : PySem.W.keepIn K (.ref f_to) = true)
    (a_sa : PySem.W.nsIn K mainGlobals "_law_same" = some (some (.ref f_sa)))
    (l_sa : K.lookup f_sa = some ⟨oc_sa, od_sa, .func (PySem.W.fnOf "_law_same" "_law_same" (defArgs sSame) (defBody sSame) (defScope sSame) .none kV_sa dc_sa pm_sa an_sa cd_sa ct_sa), sl_sa⟩)
    (c_sa : PySem.W.codeIn K cd_sa "_law_same" = true)
    (k_sa : PySem.W.keepIn K (.ref f_sa) = true)
    (a_pa : PySem.W.nsIn K mainGlobals "_law_parts" = some (some (.ref f_pa)))
    (l_pa : K.lookup f_pa = some ⟨oc_pa, od_pa, .func (PySem.W.fnOf "_law_parts" "_law_parts" (defArgs sParts) (defBody sParts) (defScope sParts) .none kV_pa dc_pa pm_pa an_pa cd_pa ct_pa), sl_pa⟩)
    (c_pa : PySem.W.codeIn K cd_pa "_law_parts" = true)
    (k_pa : PySem.W.keepIn K (.ref f_pa) = true)
    (a_la : PySem.W.nsIn K mainGlobals "_law_late" = some (some (.ref f_la)))
    (l_la : K.lookup f_la = some ⟨oc_la, od_la, .func (PySem.W.fnOf "_law_late" "_law_late" (defArgs sLate) (defBody sLate) (defScope sLate) .none kV_la dc_la pm_la an_la cd_la ct_la), sl_la⟩)
    (c_la : PySem.W.codeIn K cd_la "_law_late" = true)
    (k_la : PySem.W.keepIn K (.ref f_la) = true)
    (a_lo : PySem.W.nsIn K mainGlobals "_law_q_loose" = some (some (.ref f_lo)))
    (l_lo : K.lookup f_lo = some ⟨oc_lo, od_lo, .func (PySem.W.fnOf "_law_q_loose" "_law_q_loose" (defArgs sLoose) (defBody sLoose) (defScope sLoose) .none kV_lo dc_lo pm_lo an_lo cd_lo ct_lo), sl_lo⟩)
    (c_lo : PySem.W.codeIn K cd_lo "_law_q_loose" = true)
    (k_lo : PySem.W.keepIn K (.ref f_lo) = true)
    (a_li : PySem.W.nsIn K mainGlobals "_law_like" = some (some (.ref f_li)))
    (l_li : K.lookup f_li = some ⟨oc_li, od_li, .func (PySem.W.fnOf "_law_like" "_law_like" (defArgs sLike) (defBody sLike) (defScope sLike) .none kV_li dc_li pm_li an_li cd_li ct_li), sl_li⟩)
    (c_li : PySem.W.codeIn K cd_li "_law_like" = true)
    (k_li : PySem.W.keepIn K (.ref f_li) = true)
    (a_ma : PySem.W.nsIn K mainGlobals "_law_q_made" = some (some (.ref f_ma)))
    (l_ma : K.lookup f_ma = some ⟨oc_ma, od_ma, .func (PySem.W.fnOf "_law_q_made" "_law_q_made" (defArgs sMade) (defBody sMade) (defScope sMade) .none kV_ma dc_ma pm_ma an_ma cd_ma ct_ma), sl_ma⟩)
    (c_ma : PySem.W.codeIn K cd_ma "_law_q_made" = true)
    (k_ma : PySem.W.keepIn K (.ref f_ma) = true)
    (a_ne : PySem.W.nsIn K mainGlobals "_law_near" = some (some (.ref f_ne)))
    (l_ne : K.lookup f_ne = some ⟨oc_ne, od_ne, .func (PySem.W.fnOf "_law_near" "_law_near" (defArgs sNear) (defBody sNear) (defScope sNear) .none kV_ne dc_ne pm_ne an_ne cd_ne ct_ne), sl_ne⟩)
    (c_ne : PySem.W.codeIn K cd_ne "_law_near" = true)
    (k_ne : PySem.W.keepIn K (.ref f_ne) = true)
    (a_on : PySem.W.nsIn K mainGlobals "_law_each_once" = some (some (.ref f_on)))
    (l_on : K.lookup f_on = some ⟨oc_on, od_on, .func (PySem.W.fnOf "_law_each_once" "_law_each_once" (defArgs sOnce) (defBody sOnce) (defScope sOnce) .none kV_on dc_on pm_on an_on cd_on ct_on), sl_on⟩)
    (c_on : PySem.W.codeIn K cd_on "_law_each_once" = true)
    (k_on : PySem.W.keepIn K (.ref f_on) = true)
    (a_ap : PySem.W.nsIn K mainGlobals "_law_apart" = some (some (.ref f_ap)))
    (l_ap : K.lookup f_ap = some ⟨oc_ap, od_ap, .func (PySem.W.fnOf "_law_apart" "_law_apart" (defArgs sApart) (defBody sApart) (defScope sApart) .none kV_ap dc_ap pm_ap an_ap cd_ap ct_ap), sl_ap⟩)
    (c_ap : PySem.W.codeIn K cd_ap "_law_apart" = true)
    (k_ap : PySem.W.keepIn K (.ref f_ap) = true)
    (a_me : PySem.W.nsIn K mainGlobals "_law_met" = some (some (.ref f_me)))
    (l_me : K.lookup f_me = some ⟨oc_me, od_me, .func (PySem.W.fnOf "_law_met" "_law_met" (defArgs sMet) (defBody sMet) (defScope sMet) .none kV_me dc_me pm_me an_me cd_me ct_me), sl_me⟩)
    (c_me : PySem.W.codeIn K cd_me "_law_met" = true)
    (k_me : PySem.W.keepIn K (.ref f_me) = true)
    (a_bm : PySem.W.nsIn K mainGlobals "_law_bent_marks" = some (some (.ref f_bm)))
    (l_bm : K.lookup f_bm = some ⟨oc_bm, od_bm, .func (PySem.W.fnOf "_law_bent_marks" "_law_bent_marks" (defArgs sBentM) (defBody sBentM) (defScope sBentM) .none kV_bm dc_bm pm_bm an_bm cd_bm ct_bm), sl_bm⟩)
    (c_bm : PySem.W.codeIn K cd_bm "_law_bent_marks" = true)
    (k_bm : PySem.W.keepIn K (.ref f_bm) = true)
    (a_bc : PySem.W.nsIn K mainGlobals "_law_bent_clauses" = some (some (.ref f_bc)))
    (l_bc : K.lookup f_bc = some ⟨oc_bc, od_bc, .func (PySem.W.fnOf "_law_bent_clauses" "_law_bent_clauses" (defArgs sBentC) (defBody sBentC) (defScope sBentC) .none kV_bc dc_bc pm_bc an_bc cd_bc ct_bc), sl_bc⟩)
    (c_bc : PySem.W.codeIn K cd_bc "_law_bent_clauses" = true)
    (k_bc : PySem.W.keepIn K (.ref f_bc) = true)
    (a_il : PySem.W.nsIn K mainGlobals "is_list" = some (some (.ref f_il)))
    (l_il : K.lookup f_il = some ⟨oc_il, od_il, .func (PySem.W.fnOf "is_list" "is_list" (defArgs sIsList) (defBody sIsList) (defScope sIsList) .none kV_il dc_il pm_il an_il cd_il ct_il), sl_il⟩)
    (c_il : PySem.W.codeIn K cd_il "is_list" = true)
    (k_il : PySem.W.keepIn K (.ref f_il) = true)
    (a_it : PySem.W.nsIn K mainGlobals "is_tuple_of" = some (some (.ref f_it)))
    (l_it : K.lookup f_it = some ⟨oc_it, od_it, .func (PySem.W.fnOf "is_tuple_of" "is_tuple_of" (defArgs sIsTupleOf) (defBody sIsTupleOf) (defScope sIsTupleOf) .none kV_it dc_it pm_it an_it cd_it ct_it), sl_it⟩)
    (c_it : PySem.W.codeIn K cd_it "is_tuple_of" = true)
    (k_it : PySem.W.keepIn K (.ref f_it) = true)
    (a_ii : PySem.W.nsIn K mainGlobals "is_integer" = some (some (.ref f_ii)))
    (l_ii : K.lookup f_ii = some ⟨oc_ii, od_ii, .func (PySem.W.fnOf "is_integer" "is_integer" (defArgs sIsInteger) (defBody sIsInteger) (defScope sIsInteger) .none kV_ii dc_ii pm_ii an_ii cd_ii ct_ii), sl_ii⟩)
    (c_ii : PySem.W.codeIn K cd_ii "is_integer" = true)
    (k_ii : PySem.W.keepIn K (.ref f_ii) = true)
    (a_in_ : PySem.W.nsIn K mainGlobals "is_name" = some (some (.ref f_in_)))
    (l_in_ : K.lookup f_in_ = some ⟨oc_in_, od_in_, .func (PySem.W.fnOf "is_name" "is_name" (defArgs sIsName) (defBody sIsName) (defScope sIsName) .none kV_in_ dc_in_ pm_in_ an_in_ cd_in_ ct_in_), sl_in_⟩)
    (c_in_ : PySem.W.codeIn K cd_in_ "is_name" = true)
    (k_in_ : PySem.W.keepIn K (.ref f_in_) = true)
    (a_ll : PySem.W.nsIn K mainGlobals "literal_list" = some (some (.ref f_ll)))
    (l_ll : K.lookup f_ll = some ⟨oc_ll, od_ll, .func (PySem.W.fnOf "literal_list" "literal_list" (defArgs sLits) (defBody sLits) (defScope sLits) .none kV_ll dc_ll pm_ll an_ll cd_ll ct_ll), sl_ll⟩)
    (c_ll : PySem.W.codeIn K cd_ll "literal_list" = true)
    (k_ll : PySem.W.keepIn K (.ref f_ll) = true)
    (a_co : PySem.W.nsIn K mainGlobals "code_of" = some (some (.ref f_co)))
    (l_co : K.lookup f_co = some ⟨oc_co, od_co, .func (PySem.W.fnOf "code_of" "code_of" (defArgs sCode) (defBody sCode) (defScope sCode) .none kV_co dc_co pm_co an_co cd_co ct_co), sl_co⟩)
    (c_co : PySem.W.codeIn K cd_co "code_of" = true)
    (k_co : PySem.W.keepIn K (.ref f_co) = true)
    (a_tu : PySem.W.nsIn K mainGlobals "turned_code" = some (some (.ref f_tu)))
    (l_tu : K.lookup f_tu = some ⟨oc_tu, od_tu, .func (PySem.W.fnOf "turned_code" "turned_code" (defArgs sTurn) (defBody sTurn) (defScope sTurn) .none kV_tu dc_tu pm_tu an_tu cd_tu ct_tu), sl_tu⟩)
    (c_tu : PySem.W.codeIn K cd_tu "turned_code" = true)
    (k_tu : PySem.W.keepIn K (.ref f_tu) = true)
    (a_bi : PySem.W.nsIn K mainGlobals "truth_bit" = some (some (.ref f_bi)))
    (l_bi : K.lookup f_bi = some ⟨oc_bi, od_bi, .func (PySem.W.fnOf "truth_bit" "truth_bit" (defArgs sBit) (defBody sBit) (defScope sBit) .none kV_bi dc_bi pm_bi an_bi cd_bi ct_bi), sl_bi⟩)
    (c_bi : PySem.W.codeIn K cd_bi "truth_bit" = true)
    (k_bi : PySem.W.keepIn K (.ref f_bi) = true)
    (a_ih : PySem.W.nsIn K mainGlobals "is_hand" = some (some (.ref f_ih)))
    (l_ih : K.lookup f_ih = some ⟨oc_ih, od_ih, .func (PySem.W.fnOf "is_hand" "is_hand" (defArgs sIsHand) (defBody sIsHand) (defScope sIsHand) .none kV_ih dc_ih pm_ih an_ih cd_ih ct_ih), sl_ih⟩)
    (c_ih : PySem.W.codeIn K cd_ih "is_hand" = true)
    (k_ih : PySem.W.keepIn K (.ref f_ih) = true)
    (a_fm : PySem.W.nsIn K mainGlobals "first_wrong_mark" = some (some (.ref f_fm)))
    (l_fm : K.lookup f_fm = some ⟨oc_fm, od_fm, .func (PySem.W.fnOf "first_wrong_mark" "first_wrong_mark" (defArgs sFwm) (defBody sFwm) (defScope sFwm) .none kV_fm dc_fm pm_fm an_fm cd_fm ct_fm), sl_fm⟩)
    (c_fm : PySem.W.codeIn K cd_fm "first_wrong_mark" = true)
    (k_fm : PySem.W.keepIn K (.ref f_fm) = true)
    (a_fc : PySem.W.nsIn K mainGlobals "first_wrong_clause" = some (some (.ref f_fc)))
    (l_fc : K.lookup f_fc = some ⟨oc_fc, od_fc, .func (PySem.W.fnOf "first_wrong_clause" "first_wrong_clause" (defArgs sFwc) (defBody sFwc) (defScope sFwc) .none kV_fc dc_fc pm_fc an_fc cd_fc ct_fc), sl_fc⟩)
    (c_fc : PySem.W.codeIn K cd_fc "first_wrong_clause" = true)
    (k_fc : PySem.W.keepIn K (.ref f_fc) = true)
    (a_oc : PySem.W.nsIn K mainGlobals "ordered_clauses" = some (some (.ref f_oc)))
    (l_oc : K.lookup f_oc = some ⟨oc_oc, od_oc, .func (PySem.W.fnOf "ordered_clauses" "ordered_clauses" (defArgs sOcl) (defBody sOcl) (defScope sOcl) .none kV_oc dc_oc pm_oc an_oc cd_oc ct_oc), sl_oc⟩)
    (c_oc : PySem.W.codeIn K cd_oc "ordered_clauses" = true)
    (k_oc : PySem.W.keepIn K (.ref f_oc) = true)
    (a_or : PySem.W.nsIn K mainGlobals "in_marks_order" = some (some (.ref f_or)))
    (l_or : K.lookup f_or = some ⟨oc_or, od_or, .func (PySem.W.fnOf "in_marks_order" "in_marks_order" (defArgs sOrd) (defBody sOrd) (defScope sOrd) .none kV_or dc_or pm_or an_or (.ref cc_or) ct_or), sl_or⟩)
    (c_or : PySem.W.codeIn K (.ref cc_or) "in_marks_order" = true)
    (k_or : PySem.W.keepIn K (.ref f_or) = true)
    (p_or : K.lookup cc_or = some ⟨e_or, dd_or, .fields vs_or, s2_or⟩)
    (q_or : vs_or[11]? = some (.ref t_or))
    (n_or : K.lookup t_or = none)
    (a_od : PySem.W.nsIn K mainGlobals "_law_ordered" = some (some (.ref f_od)))
    (l_od : K.lookup f_od = some ⟨oc_od, od_od, .func (PySem.W.fnOf "_law_ordered" "_law_ordered" (defArgs sOrdered) (defBody sOrdered) (defScope sOrdered) .none kV_od dc_od pm_od an_od (.ref cc_od) ct_od), sl_od⟩)
    (c_od : PySem.W.codeIn K (.ref cc_od) "_law_ordered" = true)
    (k_od : PySem.W.keepIn K (.ref f_od) = true)
    (p_od : K.lookup cc_od = some ⟨e_od, dd_od, .fields vs_od, s2_od⟩)
    (q_od : vs_od[11]? = some (.ref t_od))
    (n_od : K.lookup t_od = none)
    (a_rf : PySem.W.nsIn K mainGlobals "_law_refused_right" = some (some (.ref f_rf)))
    (l_rf : K.lookup f_rf = some ⟨oc_rf, od_rf, .func (PySem.W.fnOf "_law_refused_right" "_law_refused_right" (defArgs sRef) (defBody sRef) (defScope sRef) .none kV_rf dc_rf pm_rf an_rf (.ref cc_rf) ct_rf), sl_rf⟩)
    (c_rf : PySem.W.codeIn K (.ref cc_rf) "_law_refused_right" = true)
    (k_rf : PySem.W.keepIn K (.ref f_rf) = true)
    (p_rf : K.lookup cc_rf = some ⟨e_rf, dd_rf, .fields vs_rf, s2_rf⟩)
    (q_rf : vs_rf[11]? = some (.ref t_rf))
    (n_rf : K.lookup t_rf = none)
    (a_e2 : PySem.W.nsIn K mainGlobals "BadMarks" = some (some (.ref C_e2)))
    (x_e2 : ∃ nm q N bs bm sn sub ab col dd k0 k1 k2 k3 k5, K.lookup C_e2 = some (excClassObj nm q C_e2 N bs bm true sn sub ab col dd k0 k1 k2 k3 k5 "ValueError.__new__") ∧ PySem.HandSPX.refsVE bm = true)
    (sa_e2 : PySem.W.findIn K (.ref C_e2) "__setattr__" = some (some (.builtin "object.__setattr__")))
    (ex_e2 : PySem.W.subIn K (.ref C_e2) (.type "BaseException") = some true)
    (ty_e2 : PySem.W.typeIn K (.ref C_e2) = some (.type "type"))
    (kC_e2 : PySem.W.keepIn K (.ref C_e2) = true)
    (iC_e2 : PySem.W.findIn K (.ref C_e2) "__init__" = some (some (.ref f_e2)))
    (l_e2 : K.lookup f_e2 = some ⟨oc_e2, od_e2, .func (PySem.W.fnOf "__init__" "BadMarks.__init__" (defArgs (sErr 2)) (defBody (sErr 2)) (defScope (sErr 2)) .none kV_e2 dc_e2 pm_e2 an_e2 cd_e2 ct_e2), sl_e2⟩)
    (c_e2 : PySem.W.codeIn K cd_e2 "BadMarks.__init__" = true)
    (k_e2 : PySem.W.keepIn K (.ref f_e2) = true)
    (tI_e2 : PySem.W.typeIn K (.ref f_e2) = some (.type "function"))
    (no_e2 : PySem.W.findIn K (.ref C_e2) "index" = some none)
    (ga_e2 : PySem.W.findIn K (.ref C_e2) "__getattribute__" = some (some (.builtin "BaseException.__getattribute__")))
    (gg_e2 : PySem.W.findIn K (.ref C_e2) "__getattr__" = some none)
    (hd_e2 : PySem.W.hasDictIn K C_e2 = true)
    (a_e3 : PySem.W.nsIn K mainGlobals "BadWishes" = some (some (.ref C_e3)))
    (x_e3 : ∃ nm q N bs bm sn sub ab col dd k0 k1 k2 k3 k5, K.lookup C_e3 = some (excClassObj nm q C_e3 N bs bm true sn sub ab col dd k0 k1 k2 k3 k5 "ValueError.__new__") ∧ PySem.HandSPX.refsVE bm = true)
    (sa_e3 : PySem.W.findIn K (.ref C_e3) "__setattr__" = some (some (.builtin "object.__setattr__")))
    (ex_e3 : PySem.W.subIn K (.ref C_e3) (.type "BaseException") = some true)
    (ty_e3 : PySem.W.typeIn K (.ref C_e3) = some (.type "type"))
    (kC_e3 : PySem.W.keepIn K (.ref C_e3) = true)
    (iC_e3 : PySem.W.findIn K (.ref C_e3) "__init__" = some (some (.ref f_e3)))
    (l_e3 : K.lookup f_e3 = some ⟨oc_e3, od_e3, .func (PySem.W.fnOf "__init__" "BadWishes.__init__" (defArgs (sErr 3)) (defBody (sErr 3)) (defScope (sErr 3)) .none kV_e3 dc_e3 pm_e3 an_e3 cd_e3 ct_e3), sl_e3⟩)
    (c_e3 : PySem.W.codeIn K cd_e3 "BadWishes.__init__" = true)
    (k_e3 : PySem.W.keepIn K (.ref f_e3) = true)
    (tI_e3 : PySem.W.typeIn K (.ref f_e3) = some (.type "function"))
    (no_e3 : PySem.W.findIn K (.ref C_e3) "index" = some none)
    (ga_e3 : PySem.W.findIn K (.ref C_e3) "__getattribute__" = some (some (.builtin "BaseException.__getattribute__")))
    (gg_e3 : PySem.W.findIn K (.ref C_e3) "__getattr__" = some none)
    (hd_e3 : PySem.W.hasDictIn K C_e3 = true)
    (a_e4 : PySem.W.nsIn K mainGlobals "BadGuards" = some (some (.ref C_e4)))
    (x_e4 : ∃ nm q N bs bm sn sub ab col dd k0 k1 k2 k3 k5, K.lookup C_e4 = some (excClassObj nm q C_e4 N bs bm true sn sub ab col dd k0 k1 k2 k3 k5 "ValueError.__new__") ∧ PySem.HandSPX.refsVE bm = true)
    (sa_e4 : PySem.W.findIn K (.ref C_e4) "__setattr__" = some (some (.builtin "object.__setattr__")))
    (ex_e4 : PySem.W.subIn K (.ref C_e4) (.type "BaseException") = some true)
    (ty_e4 : PySem.W.typeIn K (.ref C_e4) = some (.type "type"))
    (kC_e4 : PySem.W.keepIn K (.ref C_e4) = true)
    (iC_e4 : PySem.W.findIn K (.ref C_e4) "__init__" = some (some (.ref f_e4)))
    (l_e4 : K.lookup f_e4 = some ⟨oc_e4, od_e4, .func (PySem.W.fnOf "__init__" "BadGuards.__init__" (defArgs (sErr 4)) (defBody (sErr 4)) (defScope (sErr 4)) .none kV_e4 dc_e4 pm_e4 an_e4 cd_e4 ct_e4), sl_e4⟩)
    (c_e4 : PySem.W.codeIn K cd_e4 "BadGuards.__init__" = true)
    (k_e4 : PySem.W.keepIn K (.ref f_e4) = true)
    (tI_e4 : PySem.W.typeIn K (.ref f_e4) = some (.type "function"))
    (no_e4 : PySem.W.findIn K (.ref C_e4) "index" = some none)
    (ga_e4 : PySem.W.findIn K (.ref C_e4) "__getattribute__" = some (some (.builtin "BaseException.__getattribute__")))
    (gg_e4 : PySem.W.findIn K (.ref C_e4) "__getattr__" = some none)
    (hd_e4 : PySem.W.hasDictIn K C_e4 = true)
    (m22 : PySem.W.exmOne K (.ref C_e2) (.ref C_e2) = some true)
    (m32 : PySem.W.exmOne K (.ref C_e3) (.ref C_e2) = some false)
    (m33 : PySem.W.exmOne K (.ref C_e3) (.ref C_e3) = some true)
    (m42 : PySem.W.exmOne K (.ref C_e4) (.ref C_e2) = some false)
    (m43 : PySem.W.exmOne K (.ref C_e4) (.ref C_e3) = some false)
    (m44 : PySem.W.exmOne K (.ref C_e4) (.ref C_e4) = some true)
    (a_Q : PySem.W.nsIn K mainGlobals "Question" = some (some (.ref CQ)))
    (pg_Q : PySem.W.plainGet K CQ Str.empty = true)
    (hd_Q : PySem.W.hasDictIn K CQ = true)
    (po_Q : PySem.W.plainOver K CQ = true)
    (sa_Q : PySem.W.findIn K (.ref CQ) "__setattr__" = some (some (.builtin "object.__setattr__")))
    (mk_Q : PySem.W.makesIn K CQ = true)
    (kp_Q : PySem.W.keepIn K (.ref CQ) = true)
    (no0 : PySem.W.findIn K (.ref CQ) "names" = some none)
    (no1 : PySem.W.findIn K (.ref CQ) "hands" = some none)
    (no2 : PySem.W.findIn K (.ref CQ) "places" = some none)
    (no3 : PySem.W.findIn K (.ref CQ) "wish_lists" = some none)
    (no4 : PySem.W.findIn K (.ref CQ) "guard_lists" = some none)
    (no5 : PySem.W.findIn K (.ref CQ) "wish_codes" = some none)
    (no6 : PySem.W.findIn K (.ref CQ) "wish_turns" = some none)
    (no7 : PySem.W.findIn K (.ref CQ) "guard_codes" = some none)
    (no8 : PySem.W.findIn K (.ref CQ) "guard_turns" = some none)
    (at_qi : PySem.W.findIn K (.ref CQ) "__init__" = some (some (.ref f_qi)))
    (l_qi : K.lookup f_qi = some ⟨oc_qi, od_qi, .func (PySem.W.fnOf "__init__" "Question.__init__" (defArgs sInit) (defBody sInit) (defScope sInit) .none kV_qi dc_qi pm_qi an_qi cd_qi ct_qi), sl_qi⟩)
    (c_qi : PySem.W.codeIn K cd_qi "Question.__init__" = true)
    (k_qi : PySem.W.keepIn K (.ref f_qi) = true)
    (fn_qi : PySem.W.isFn K (.ref f_qi) = true)
    (at_qm : PySem.W.findIn K (.ref CQ) "marks" = some (some (.ref f_qm)))
    (l_qm : K.lookup f_qm = some ⟨oc_qm, od_qm, .func (PySem.W.fnOf "marks" "Question.marks" (defArgs sMarks) (defBody sMarks) (defScope sMarks) .none kV_qm dc_qm pm_qm an_qm cd_qm ct_qm), sl_qm⟩)
    (c_qm : PySem.W.codeIn K cd_qm "Question.marks" = true)
    (k_qm : PySem.W.keepIn K (.ref f_qm) = true)
    (fn_qm : PySem.W.isFn K (.ref f_qm) = true)
    (at_qw : PySem.W.findIn K (.ref CQ) "wishes" = some (some (.ref f_qw)))
    (l_qw : K.lookup f_qw = some ⟨oc_qw, od_qw, .func (PySem.W.fnOf "wishes" "Question.wishes" (defArgs sWishes) (defBody sWishes) (defScope sWishes) .none kV_qw dc_qw pm_qw an_qw cd_qw ct_qw), sl_qw⟩)
    (c_qw : PySem.W.codeIn K cd_qw "Question.wishes" = true)
    (k_qw : PySem.W.keepIn K (.ref f_qw) = true)
    (fn_qw : PySem.W.isFn K (.ref f_qw) = true)
    (at_qg : PySem.W.findIn K (.ref CQ) "guards" = some (some (.ref f_qg)))
    (l_qg : K.lookup f_qg = some ⟨oc_qg, od_qg, .func (PySem.W.fnOf "guards" "Question.guards" (defArgs sGuards) (defBody sGuards) (defScope sGuards) .none kV_qg dc_qg pm_qg an_qg cd_qg ct_qg), sl_qg⟩)
    (c_qg : PySem.W.codeIn K cd_qg "Question.guards" = true)
    (k_qg : PySem.W.keepIn K (.ref f_qg) = true)
    (fn_qg : PySem.W.isFn K (.ref f_qg) = true)
    (at_qe : PySem.W.findIn K (.ref CQ) "__eq__" = some (some (.ref f_qe)))
    (l_qe : K.lookup f_qe = some ⟨oc_qe, od_qe, .func (PySem.W.fnOf "__eq__" "Question.__eq__" (defArgs sEq) (defBody sEq) (defScope sEq) .none kV_qe dc_qe pm_qe an_qe cd_qe ct_qe), sl_qe⟩)
    (c_qe : PySem.W.codeIn K cd_qe "Question.__eq__" = true)
    (k_qe : PySem.W.keepIn K (.ref f_qe) = true)
    (fn_qe : PySem.W.isFn K (.ref f_qe) = true)
    (ne_Q : PySem.W.findIn K (.ref CQ) "__ne__" = some (some (.builtin "object.__ne__")))
    (ob_Q : PySem.W.subIn K (.ref CQ) (.type "object") = some true)
    (nt_Q : PySem.W.notFirst K CQ (.type "tuple") = true)
    (ns_Q : PySem.W.notFirst K CQ (.type "str") = true)
    (kt_Q : PySem.W.kitOne K (.type "tuple") (.ref CQ) = some false)
    (ks_Q : PySem.W.kitOne K (.type "str") (.ref CQ) = some false)
    (z_isinstance : PySem.W.nsIn K mainGlobals "isinstance" = some none)
    (z_len : PySem.W.nsIn K mainGlobals "len" = some none)
    (z_list : PySem.W.nsIn K mainGlobals "list" = some none)
    (z_tuple : PySem.W.nsIn K mainGlobals "tuple" = some none)
    (z_int : PySem.W.nsIn K mainGlobals "int" = some none)
    (z_bool : PySem.W.nsIn K mainGlobals "bool" = some none)
    (z_str : PySem.W.nsIn K mainGlobals "str" = some none)
    (z_dict : PySem.W.nsIn K mainGlobals "dict" = some none)
    (z_all : PySem.W.nsIn K mainGlobals "all" = some none)
    (z_sum : PySem.W.nsIn K mainGlobals "sum" = some none)
    (z_abs : PySem.W.nsIn K mainGlobals "abs" = some none)
    (z_range : PySem.W.nsIn K mainGlobals "range" = some none)
    (z_enumerate : PySem.W.nsIn K mainGlobals "enumerate" = some none)
    (z_zip : PySem.W.nsIn K mainGlobals "zip" = some none)
    (z_sorted : PySem.W.nsIn K mainGlobals "sorted" = some none)
    (z_set : PySem.W.nsIn K mainGlobals "set" = some none)
    (z_repr : PySem.W.nsIn K mainGlobals "repr" = some none)
    (g_L : PySem.W.nsIn K mainGlobals "LETTERS" = some (some (.str sLETTERS tk1)))
    (g_F : PySem.W.nsIn K mainGlobals "FIGURES" = some (some (.str sFIGURES tk2)))
    (g_N : PySem.W.nsIn K mainGlobals "LONGEST_NAME" = some (some (.int 8 tk3)))
    (cl1 : PySem.W.findIn K (.ref CQ) "__class__" = some (some (.builtin "object.__class__")))
    (cl2 : PySem.W.specialIn K (.builtin "object.__class__") "__get__" = some (some (.builtin "getset_descriptor.__get__")))
    (cl3 : PySem.W.takesIn K (.builtin "object.__class__") = some true)
    (cl4 : PySem.W.mroIn K CQ (.type "object") = some true)
    (d1 : t_or ≠ t_od)
    (d2 : t_or ≠ t_rf)
    (d3 : t_od ≠ t_rf) :
    LawG l w K 10 63 "script" mg fa h := by
  have e := hfa.symm.trans (PySem.W.mg_of X G a_law)
  cases e
  have F_law := fun_mk (st := sLaw) l_law c_law k_law
  let N_law : Dn K mg "law" sLaw ["script"] := ⟨_, _, F_law, F_law.binds (ps := ["script"]) fun _ _ _ _ _ _ us hl => match us, hl with | [_], _ => rfl, PySem.W.mg_of X G a_law⟩
  have F_st := fun_mk (st := sStream) l_st c_st k_st
  let N_st : Dn K mg "_law_stream" sStream ["script", "k"] := ⟨_, _, F_st, F_st.binds (ps := ["script", "k"]) fun _ _ _ _ _ _ us hl => match us, hl with | [_, _], _ => rfl, PySem.W.mg_of X G a_st⟩
  have F_qd := fun_mk (st := sQDrawn) l_qd c_qd k_qd
  let N_qd : Dn K mg "_law_q_drawn" sQDrawn ["stream", "many", "is_chance"] := ⟨_, _, F_qd, F_qd.binds (ps := ["stream", "many", "is_chance"]) fun _ _ _ _ _ _ us hl => match us, hl with | [_, _, _], _ => rfl, PySem.W.mg_of X G a_qd⟩
  have F_dr := fun_mk (st := sDraw) l_dr c_dr k_dr
  let N_dr : Dn K mg "_law_draw" sDraw ["stream", "many"] := ⟨_, _, F_dr, F_dr.binds (ps := ["stream", "many"]) fun _ _ _ _ _ _ us hl => match us, hl with | [_, _], _ => rfl, PySem.W.mg_of X G a_dr⟩
  have F_pk := fun_mk (st := sPick) l_pk c_pk k_pk
  let N_pk : Dn K mg "_law_pick" sPick ["stream", "some"] := ⟨_, _, F_pk, F_pk.binds (ps := ["stream", "some"]) fun _ _ _ _ _ _ us hl => match us, hl with | [_, _], _ => rfl, PySem.W.mg_of X G a_pk⟩
  have F_mx := fun_mk (st := sMixed) l_mx c_mx k_mx
  let N_mx : Dn K mg "_law_mixed" sMixed ["stream", "some"] := ⟨_, _, F_mx, F_mx.binds (ps := ["stream", "some"]) fun _ _ _ _ _ _ us hl => match us, hl with | [_, _], _ => rfl, PySem.W.mg_of X G a_mx⟩
  have F_qn := fun_mk (st := sQNames) l_qn c_qn k_qn
  let N_qn : Dn K mg "_law_q_names" sQNames ["stream", "many"] := ⟨_, _, F_qn, F_qn.binds (ps := ["stream", "many"]) fun _ _ _ _ _ _ us hl => match us, hl with | [_, _], _ => rfl, PySem.W.mg_of X G a_qn⟩
  have F_qh := fun_mk (st := sQHand) l_qh c_qh k_qh
  let N_qh : Dn K mg "_law_q_hand" sQHand ["stream", "is_chance"] := ⟨_, _, F_qh, F_qh.binds (ps := ["stream", "is_chance"]) fun _ _ _ _ _ _ us hl => match us, hl with | [_, _], _ => rfl, PySem.W.mg_of X G a_qh⟩
  have F_qc := fun_mk (st := sQClause) l_qc c_qc k_qc
  let N_qc : Dn K mg "_law_q_clause" sQClause ["stream", "names", "most"] := ⟨_, _, F_qc, F_qc.binds (ps := ["stream", "names", "most"]) fun _ _ _ _ _ _ us hl => match us, hl with | [_, _, _], _ => rfl, PySem.W.mg_of X G a_qc⟩
  have F_qcs := fun_mk (st := sQClauses) l_qcs c_qcs k_qcs
  let N_qcs : Dn K mg "_law_q_clauses" sQClauses ["stream", "names", "many", "most"] := ⟨_, _, F_qcs, F_qcs.binds (ps := ["stream", "names", "many", "most"]) fun _ _ _ _ _ _ us hl => match us, hl with | [_, _, _, _], _ => rfl, PySem.W.mg_of X G a_qcs⟩
  have F_to := fun_mk (st := sTold) l_to c_to k_to
  let N_to : Dn K mg "_law_told_right" sTold ["stream", "question"] := ⟨_, _, F_to, F_to.binds (ps := ["stream", "question"]) fun _ _ _ _ _ _ us hl => match us, hl with | [_, _], _ => rfl, PySem.W.mg_of X G a_to⟩
  have F_sa := fun_mk (st := sSame) l_sa c_sa k_sa
  let N_sa : Dn K mg "_law_same" sSame ["found", "wanted"] := ⟨_, _, F_sa, F_sa.binds (ps := ["found", "wanted"]) fun _ _ _ _ _ _ us hl => match us, hl with | [_, _], _ => rfl, PySem.W.mg_of X G a_sa⟩
  have F_pa := fun_mk (st := sParts) l_pa c_pa k_pa
  let N_pa : Dn K mg "_law_parts" sParts ["question"] := ⟨_, _, F_pa, F_pa.binds (ps := ["question"]) fun _ _ _ _ _ _ us hl => match us, hl with | [_], _ => rfl, PySem.W.mg_of X G a_pa⟩
  have F_la := fun_mk (st := sLate) l_la c_la k_la
  let N_la : Dn K mg "_law_late" sLate ["thing"] := ⟨_, _, F_la, F_la.binds (ps := ["thing"]) fun _ _ _ _ _ _ us hl => match us, hl with | [_], _ => rfl, PySem.W.mg_of X G a_la⟩
  have F_lo := fun_mk (st := sLoose) l_lo c_lo k_lo
  let N_lo : Dn K mg "_law_q_loose" sLoose ["stream", "thing"] := ⟨_, _, F_lo, F_lo.binds (ps := ["stream", "thing"]) fun _ _ _ _ _ _ us hl => match us, hl with | [_, _], _ => rfl, PySem.W.mg_of X G a_lo⟩
  have F_li := fun_mk (st := sLike) l_li c_li k_li
  let N_li : Dn K mg "_law_like" sLike ["stream", "question"] := ⟨_, _, F_li, F_li.binds (ps := ["stream", "question"]) fun _ _ _ _ _ _ us hl => match us, hl with | [_, _], _ => rfl, PySem.W.mg_of X G a_li⟩
  have F_ma := fun_mk (st := sMade) l_ma c_ma k_ma
  let N_ma : Dn K mg "_law_q_made" sMade ["stream", "question"] := ⟨_, _, F_ma, F_ma.binds (ps := ["stream", "question"]) fun _ _ _ _ _ _ us hl => match us, hl with | [_, _], _ => rfl, PySem.W.mg_of X G a_ma⟩
  have F_ne := fun_mk (st := sNear) l_ne c_ne k_ne
  let N_ne : Dn K mg "_law_near" sNear ["stream", "question"] := ⟨_, _, F_ne, F_ne.binds (ps := ["stream", "question"]) fun _ _ _ _ _ _ us hl => match us, hl with | [_, _], _ => rfl, PySem.W.mg_of X G a_ne⟩
  have F_on := fun_mk (st := sOnce) l_on c_on k_on
  let N_on : Dn K mg "_law_each_once" sOnce ["some"] := ⟨_, _, F_on, F_on.binds (ps := ["some"]) fun _ _ _ _ _ _ us hl => match us, hl with | [_], _ => rfl, PySem.W.mg_of X G a_on⟩
  have F_ap := fun_mk (st := sApart) l_ap c_ap k_ap
  let N_ap : Dn K mg "_law_apart" sApart ["question"] := ⟨_, _, F_ap, F_ap.binds (ps := ["question"]) fun _ _ _ _ _ _ us hl => match us, hl with | [_], _ => rfl, PySem.W.mg_of X G a_ap⟩
  have F_me := fun_mk (st := sMet) l_me c_me k_me
  let N_me : Dn K mg "_law_met" sMet ["ask"] := ⟨_, _, F_me, F_me.binds (ps := ["ask"]) fun _ _ _ _ _ _ us hl => match us, hl with | [_], _ => rfl, PySem.W.mg_of X G a_me⟩
  have F_bm := fun_mk (st := sBentM) l_bm c_bm k_bm
  let N_bm : Dn K mg "_law_bent_marks" sBentM ["stream", "question"] := ⟨_, _, F_bm, F_bm.binds (ps := ["stream", "question"]) fun _ _ _ _ _ _ us hl => match us, hl with | [_, _], _ => rfl, PySem.W.mg_of X G a_bm⟩
  have F_bc := fun_mk (st := sBentC) l_bc c_bc k_bc
  let N_bc : Dn K mg "_law_bent_clauses" sBentC ["stream", "question", "clauses"] := ⟨_, _, F_bc, F_bc.binds (ps := ["stream", "question", "clauses"]) fun _ _ _ _ _ _ us hl => match us, hl with | [_, _, _], _ => rfl, PySem.W.mg_of X G a_bc⟩
  have F_il := fun_mk (st := sIsList) l_il c_il k_il
  let N_il : Dn K mg "is_list" sIsList ["thing"] := ⟨_, _, F_il, F_il.binds (ps := ["thing"]) fun _ _ _ _ _ _ us hl => match us, hl with | [_], _ => rfl, PySem.W.mg_of X G a_il⟩
  have F_it := fun_mk (st := sIsTupleOf) l_it c_it k_it
  let N_it : Dn K mg "is_tuple_of" sIsTupleOf ["thing", "length"] := ⟨_, _, F_it, F_it.binds (ps := ["thing", "length"]) fun _ _ _ _ _ _ us hl => match us, hl with | [_, _], _ => rfl, PySem.W.mg_of X G a_it⟩
  have F_ii := fun_mk (st := sIsInteger) l_ii c_ii k_ii
  let N_ii : Dn K mg "is_integer" sIsInteger ["thing"] := ⟨_, _, F_ii, F_ii.binds (ps := ["thing"]) fun _ _ _ _ _ _ us hl => match us, hl with | [_], _ => rfl, PySem.W.mg_of X G a_ii⟩
  have F_in_ := fun_mk (st := sIsName) l_in_ c_in_ k_in_
  let N_in_ : Dn K mg "is_name" sIsName ["thing"] := ⟨_, _, F_in_, F_in_.binds (ps := ["thing"]) fun _ _ _ _ _ _ us hl => match us, hl with | [_], _ => rfl, PySem.W.mg_of X G a_in_⟩
  have F_ll := fun_mk (st := sLits) l_ll c_ll k_ll
  let N_ll : Dn K mg "literal_list" sLits ["places", "thing"] := ⟨_, _, F_ll, F_ll.binds (ps := ["places", "thing"]) fun _ _ _ _ _ _ us hl => match us, hl with | [_, _], _ => rfl, PySem.W.mg_of X G a_ll⟩
  have F_co := fun_mk (st := sCode) l_co c_co k_co
  let N_co : Dn K mg "code_of" sCode ["places", "literals"] := ⟨_, _, F_co, F_co.binds (ps := ["places", "literals"]) fun _ _ _ _ _ _ us hl => match us, hl with | [_, _], _ => rfl, PySem.W.mg_of X G a_co⟩
  have F_tu := fun_mk (st := sTurn) l_tu c_tu k_tu
  let N_tu : Dn K mg "turned_code" sTurn ["places", "literals"] := ⟨_, _, F_tu, F_tu.binds (ps := ["places", "literals"]) fun _ _ _ _ _ _ us hl => match us, hl with | [_, _], _ => rfl, PySem.W.mg_of X G a_tu⟩
  have F_bi := fun_mk (st := sBit) l_bi c_bi k_bi
  let N_bi : Dn K mg "truth_bit" sBit ["place", "truth"] := ⟨_, _, F_bi, F_bi.binds (ps := ["place", "truth"]) fun _ _ _ _ _ _ us hl => match us, hl with | [_, _], _ => rfl, PySem.W.mg_of X G a_bi⟩
  have F_ih := fun_mk (st := sIsHand) l_ih c_ih k_ih
  let N_ih : Dn K mg "is_hand" sIsHand ["thing"] := ⟨_, _, F_ih, F_ih.binds (ps := ["thing"]) fun _ _ _ _ _ _ us hl => match us, hl with | [_], _ => rfl, PySem.W.mg_of X G a_ih⟩
  have F_fm := fun_mk (st := sFwm) l_fm c_fm k_fm
  let N_fm : Dn K mg "first_wrong_mark" sFwm ["marks"] := ⟨_, _, F_fm, F_fm.binds (ps := ["marks"]) fun _ _ _ _ _ _ us hl => match us, hl with | [_], _ => rfl, PySem.W.mg_of X G a_fm⟩
  have F_fc := fun_mk (st := sFwc) l_fc c_fc k_fc
  let N_fc : Dn K mg "first_wrong_clause" sFwc ["places", "clauses"] := ⟨_, _, F_fc, F_fc.binds (ps := ["places", "clauses"]) fun _ _ _ _ _ _ us hl => match us, hl with | [_, _], _ => rfl, PySem.W.mg_of X G a_fc⟩
  have F_oc := fun_mk (st := sOcl) l_oc c_oc k_oc
  let N_oc : Dn K mg "ordered_clauses" sOcl ["places", "clauses"] := ⟨_, _, F_oc, F_oc.binds (ps := ["places", "clauses"]) fun _ _ _ _ _ _ us hl => match us, hl with | [_, _], _ => rfl, PySem.W.mg_of X G a_oc⟩
  have FC_or : FunC K "in_marks_order" "in_marks_order" sOrd f_or _ cc_or := ⟨⟨oc_or, od_or, kV_or, dc_or, pm_or, an_or, ct_or, sl_or, rfl, l_or, c_or⟩, k_or⟩
  let N_or : DnC K mg "in_marks_order" sOrd ["places", "literals"] := ⟨f_or, _, cc_or, t_or, FC_or, FC_or.toFun.binds (ps := ["places", "literals"]) fun _ _ _ _ _ _ us hl => match us, hl with | [_, _], _ => rfl, PySem.W.mg_of X G a_or⟩
  have FC_od : FunC K "_law_ordered" "_law_ordered" sOrdered f_od _ cc_od := ⟨⟨oc_od, od_od, kV_od, dc_od, pm_od, an_od, ct_od, sl_od, rfl, l_od, c_od⟩, k_od⟩
  let N_od : DnC K mg "_law_ordered" sOrdered ["names", "clause"] := ⟨f_od, _, cc_od, t_od, FC_od, FC_od.toFun.binds (ps := ["names", "clause"]) fun _ _ _ _ _ _ us hl => match us, hl with | [_, _], _ => rfl, PySem.W.mg_of X G a_od⟩
  have FC_rf : FunC K "_law_refused_right" "_law_refused_right" sRef f_rf _ cc_rf := ⟨⟨oc_rf, od_rf, kV_rf, dc_rf, pm_rf, an_rf, ct_rf, sl_rf, rfl, l_rf, c_rf⟩, k_rf⟩
  let N_rf : DnC K mg "_law_refused_right" sRef ["stream", "question"] := ⟨f_rf, _, cc_rf, t_rf, FC_rf, FC_rf.toFun.binds (ps := ["stream", "question"]) fun _ _ _ _ _ _ us hl => match us, hl with | [_, _], _ => rfl, PySem.W.mg_of X G a_rf⟩
  have F_e2 := fun_mk (st := sErr 2) l_e2 c_e2 k_e2
  let E_e2 : Er K mg "BadMarks" "BadMarks.__init__" (sErr 2) := ⟨C_e2, f_e2, _, F_e2, F_e2.binds (ps := ["self", "index"]) fun _ _ _ _ _ _ us hl => match us, hl with | [_, _], _ => rfl, ⟨x_e2, sa_e2, ex_e2, ty_e2, kC_e2⟩, iC_e2, tI_e2, PySem.W.mg_of X G a_e2, no_e2⟩
  have F_e3 := fun_mk (st := sErr 3) l_e3 c_e3 k_e3
  let E_e3 : Er K mg "BadWishes" "BadWishes.__init__" (sErr 3) := ⟨C_e3, f_e3, _, F_e3, F_e3.binds (ps := ["self", "index"]) fun _ _ _ _ _ _ us hl => match us, hl with | [_, _], _ => rfl, ⟨x_e3, sa_e3, ex_e3, ty_e3, kC_e3⟩, iC_e3, tI_e3, PySem.W.mg_of X G a_e3, no_e3⟩
  have F_e4 := fun_mk (st := sErr 4) l_e4 c_e4 k_e4
  let E_e4 : Er K mg "BadGuards" "BadGuards.__init__" (sErr 4) := ⟨C_e4, f_e4, _, F_e4, F_e4.binds (ps := ["self", "index"]) fun _ _ _ _ _ _ us hl => match us, hl with | [_, _], _ => rfl, ⟨x_e4, sa_e4, ex_e4, ty_e4, kC_e4⟩, iC_e4, tI_e4, PySem.W.mg_of X G a_e4, no_e4⟩
  have F_qi := fun_mk (st := sInit) l_qi c_qi k_qi
  have F_qm := fun_mk (st := sMarks) l_qm c_qm k_qm
  have F_qw := fun_mk (st := sWishes) l_qw c_qw k_qw
  have F_qg := fun_mk (st := sGuards) l_qg c_qg k_qg
  have F_qe := fun_mk (st := sEq) l_qe c_qe k_qe
  have QI : Qi K CQ := ⟨fun e => .base (.ins e ⟨pg_Q, hd_Q, po_Q, sa_Q⟩ cl1 cl2 cl3 cl4)⟩
  have B : Bt mg := ⟨PySem.W.mg_none_of X G z_isinstance, PySem.W.mg_none_of X G z_len, PySem.W.mg_none_of X G z_list, PySem.W.mg_none_of X G z_tuple, PySem.W.mg_none_of X G z_int, PySem.W.mg_none_of X G z_bool, PySem.W.mg_none_of X G z_str, PySem.W.mg_none_of X G z_dict, PySem.W.mg_none_of X G z_all, PySem.W.mg_none_of X G z_sum, PySem.W.mg_none_of X G z_abs, PySem.W.mg_none_of X G z_range, PySem.W.mg_none_of X G z_enumerate, PySem.W.mg_none_of X G z_zip, PySem.W.mg_none_of X G z_sorted, PySem.W.mg_none_of X G z_set, PySem.W.mg_none_of X G z_repr⟩
  let Z : Qc K mg := ⟨CQ, ⟨pg_Q, hd_Q, po_Q, sa_Q⟩, fun f hf => by
    simp only [List.mem_cons, List.not_mem_nil, or_false] at hf
    rcases hf with rfl | rfl | rfl | rfl | rfl | rfl | rfl | rfl | rfl
    all_goals assumption, PySem.W.mg_of X G a_Q⟩
  let Y : Pk K mg := ⟨N_il, N_it, N_ii, N_in_, N_ll, N_or, N_co, N_tu, N_bi, N_ih, N_fm, N_fc, N_oc, E_e2, E_e3, E_e4⟩
  let W : Qw K mg := ⟨Z, Y, ⟨⟨tk1, PySem.W.mg_of X G g_L⟩, ⟨tk2, PySem.W.mg_of X G g_F⟩, ⟨tk3, PySem.W.mg_of X G g_N⟩⟩, f_qi, _, F_qi, F_qi.binds (ps := ["self", "marks", "wishes", "guards"]) fun _ _ _ _ _ _ us hl => match us, hl with | [_, _, _, _], _ => rfl, ⟨mk_Q, at_qi, fn_qi, kp_Q⟩⟩
  let M : Mt K CQ := ⟨f_qm, _, F_qm, F_qm.binds (ps := ["self"]) fun _ _ _ _ _ _ us hl => match us, hl with | [_], _ => rfl, ⟨at_qm, fn_qm, k_qm⟩, f_qw, _, F_qw, F_qw.binds (ps := ["self"]) fun _ _ _ _ _ _ us hl => match us, hl with | [_], _ => rfl, ⟨at_qw, fn_qw, k_qw⟩, f_qg, _, F_qg, F_qg.binds (ps := ["self"]) fun _ _ _ _ _ _ us hl => match us, hl with | [_], _ => rfl, ⟨at_qg, fn_qg, k_qg⟩⟩
  let YE : Qe K CQ := ⟨f_qe, _, F_qe, F_qe.binds (ps := ["self", "other"]) fun _ _ _ _ _ _ us hl => match us, hl with | [_, _], _ => rfl, ⟨at_qe, ne_Q, ob_Q, fn_qe⟩, QI⟩
  let D : Dr K mg := ⟨N_dr, N_pk, N_mx, N_qn, N_qh, N_qc, N_qcs⟩
  have Yn : Qn K CQ := ⟨nt_Q, ns_Q, kt_Q, ks_Q⟩
  have Xf : Xe K W.Y := ⟨⟨ga_e2, gg_e2, ex_e2, hd_e2⟩, ⟨ga_e3, gg_e3, ex_e3, hd_e3⟩, ⟨ga_e4, gg_e4, ex_e4, hd_e4⟩⟩
  have Xq : Xm K W.Y := ⟨m22, m32, m33, m42, m43, m44⟩
  have h1 := HT "in_marks_order" (by decide) f_or cc_or t_or _ _ _ _ _ _ N_or.g l_or rfl rfl p_or q_or
  have h2 := HT "_law_ordered" (by decide) f_od cc_od t_od _ _ _ _ _ _ N_od.g l_od rfl rfl p_od q_od
  have h3 := HT "_law_refused_right" (by decide) f_rf cc_rf t_rf _ _ _ _ _ _ N_rf.g l_rf rfl rfl p_rf q_rf
  have mem : ∀ {Pr : Addr × Addr → Prop}, Pr (cc_or, t_or) → Pr (cc_od, t_od) → Pr (cc_rf, t_rf) → ∀ p ∈ [(cc_or, t_or), (cc_od, t_od), (cc_rf, t_rf)], Pr p := fun a b c p hp => by
    simp only [List.mem_cons, List.not_mem_nil, or_false] at hp
    rcases hp with rfl | rfl | rfl
    · exact a
    · exact b
    · exact c
  refine ⟨PySem.W.fnOf "law" "law" (defArgs sLaw) (defBody sLaw) (defScope sLaw) .none kV_law dc_law pm_law an_law cd_law ct_law, [(cc_or, t_or), (cc_od, t_od), (cc_rf, t_rf)], spLaw K [(t_or, "in_marks_order.<locals>.<lambda>"), (t_od, "_law_ordered.<locals>.<lambda>"), (t_rf, "_law_refused_right.<locals>.<lambda>")], mem ⟨h1.1, n_or, h1.2⟩ ⟨h2.1, n_od, h2.2⟩ ⟨h3.1, n_rf, h3.2⟩, fun s u => .of_eq rfl, fun H a ns hl hH hS => ⟨a, ns, rfl, hS, by omega, tabs0 (fun p hp => ?_), fun H' => rfl⟩, fun base KB GB TB => ?_⟩
  · simp only [List.mem_cons, List.not_mem_nil, or_false] at hp
    rcases hp with rfl | rfl | rfl
    · exact hH (cc_or, t_or) (by simp)
    · exact hH (cc_od, t_od) (by simp)
    · exact hH (cc_rf, t_rf) (by simp)
  · have TT : Tq base [(t_or, "in_marks_order.<locals>.<lambda>"), (t_od, "_law_ordered.<locals>.<lambda>"), (t_rf, "_law_refused_right.<locals>.<lambda>")] W := ⟨TB (cc_or, t_or) (by simp), by simp [W, Y, N_or], fun p hp e => by
      simp only [List.mem_cons, List.not_mem_nil, or_false] at hp
      rcases hp with rfl | rfl | rfl
      · rfl
      · exact absurd e.symm d1
      · exact absurd e.symm d2⟩
    have TO : To base [(t_or, "in_marks_order.<locals>.<lambda>"), (t_od, "_law_ordered.<locals>.<lambda>"), (t_rf, "_law_refused_right.<locals>.<lambda>")] N_od := ⟨TB (cc_od, t_od) (by simp), by simp [N_od], fun p hp e => by
      simp only [List.mem_cons, List.not_mem_nil, or_false] at hp
      rcases hp with rfl | rfl | rfl
      · exact absurd e d1
      · rfl
      · exact absurd e.symm d3⟩
    have TR : Tr base [(t_or, "in_marks_order.<locals>.<lambda>"), (t_od, "_law_ordered.<locals>.<lambda>"), (t_rf, "_law_refused_right.<locals>.<lambda>")] N_rf := ⟨TB (cc_rf, t_rf) (by simp), by simp [N_rf], fun p hp e => by
      simp only [List.mem_cons, List.not_mem_nil, or_false] at hp
      rcases hp with rfl | rfl | rfl
      · exact absurd e d2
      · exact absurd e d3
      · rfl⟩
    exact ok_law B W TT M YE Yn Xf Xq N_law N_st N_qd D N_to N_sa N_pa N_la N_lo N_li N_ma N_ne N_on N_od TO N_ap N_rf TR N_me N_bm N_bc
end Q1

open PySem PySem.W PyProof.Rows
set_option Elab.async false
set_option maxRecDepth 100000 in
set_option maxHeartbeats 0 in
theorem PySem.Challenge.cw_marksinturn_k01_whole_questions_made_holds : PySem.Challenge.rw_marksinturn_k01_whole_questions_made.Holds := by
  w_on; o_law
  k_head
  (case hw => w_witness2)
  k_fill
  refine Q1.walkH (l := PySem.Challenge.rw_marksinturn_k01_whole_questions_made) (n := 63) (k := 10) (x := "script") (names := Q1.lamNames) rfl (by decide) rfl ⟨rfl, by decide, by decide⟩ ?R (fun w h Y => PySem.W.km_in_of Y) ?F
  case R => first | rfl | decide +kernel
  case F =>
    intro w mg fa h KX G hmg HT
    refine' Q1.law_mk KX G hmg HT ?a_law ?l_law ?c_law ?k_law ?a_st ?l_st ?c_st ?k_st ?a_qd ?l_qd ?c_qd ?k_qd ?a_dr ?l_dr ?c_dr ?k_dr ?a_pk ?l_pk ?c_pk ?k_pk ?a_mx ?l_mx ?c_mx ?k_mx ?a_qn ?l_qn ?c_qn ?k_qn ?a_qh ?l_qh ?c_qh ?k_qh ?a_qc ?l_qc ?c_qc ?k_qc ?a_qcs ?l_qcs ?c_qcs ?k_qcs ?a_to ?l_to ?c_to ?k_to ?a_sa ?l_sa ?c_sa ?k_sa ?a_pa ?l_pa ?c_pa ?k_pa ?a_la ?l_la ?c_la ?k_la ?a_lo ?l_lo ?c_lo ?k_lo ?a_li ?l_li ?c_li ?k_li ?a_ma ?l_ma ?c_ma ?k_ma ?a_ne ?l_ne ?c_ne ?k_ne ?a_on ?l_on ?c_on ?k_on ?a_ap ?l_ap ?c_ap ?k_ap ?a_me ?l_me ?c_me ?k_me ?a_bm ?l_bm ?c_bm ?k_bm ?a_bc ?l_bc ?c_bc ?k_bc ?a_il ?l_il ?c_il ?k_il ?a_it ?l_it ?c_it ?k_it ?a_ii ?l_ii ?c_ii ?k_ii ?a_in_ ?l_in_ ?c_in_ ?k_in_ ?a_ll ?l_ll ?c_ll ?k_ll ?a_co ?l_co ?c_co ?k_co ?a_tu ?l_tu ?c_tu ?k_tu ?a_bi ?l_bi ?c_bi ?k_bi ?a_ih ?l_ih ?c_ih ?k_ih ?a_fm ?l_fm ?c_fm ?k_fm ?a_fc ?l_fc ?c_fc ?k_fc ?a_oc ?l_oc ?c_oc ?k_oc ?a_or ?l_or ?c_or ?k_or ?p_or ?q_or ?n_or ?a_od ?l_od ?c_od ?k_od ?p_od ?q_od ?n_od ?a_rf ?l_rf ?c_rf ?k_rf ?p_rf ?q_rf ?n_rf ?a_e2 ?x_e2 ?sa_e2 ?ex_e2 ?ty_e2 ?kC_e2 ?iC_e2 ?l_e2 ?c_e2 ?k_e2 ?tI_e2 ?no_e2 ?ga_e2 ?gg_e2 ?hd_e2 ?a_e3 ?x_e3 ?sa_e3 ?ex_e3 ?ty_e3 ?kC_e3 ?iC_e3 ?l_e3 ?c_e3 ?k_e3 ?tI_e3 ?no_e3 ?ga_e3 ?gg_e3 ?hd_e3 ?a_e4 ?x_e4 ?sa_e4 ?ex_e4 ?ty_e4 ?kC_e4 ?iC_e4 ?l_e4 ?c_e4 ?k_e4 ?tI_e4 ?no_e4 ?ga_e4 ?gg_e4 ?hd_e4 ?m22 ?m32 ?m33 ?m42 ?m43 ?m44 ?a_Q ?pg_Q ?hd_Q ?po_Q ?sa_Q ?mk_Q ?kp_Q ?no0 ?no1 ?no2 ?no3 ?no4 ?no5 ?no6 ?no7 ?no8 ?at_qi ?l_qi ?c_qi ?k_qi ?fn_qi ?at_qm ?l_qm ?c_qm ?k_qm ?fn_qm ?at_qw ?l_qw ?c_qw ?k_qw ?fn_qw ?at_qg ?l_qg ?c_qg ?k_qg ?fn_qg ?at_qe ?l_qe ?c_qe ?k_qe ?fn_qe ?ne_Q ?ob_Q ?nt_Q ?ns_Q ?kt_Q ?ks_Q ?z_isinstance ?z_len ?z_list ?z_tuple ?z_int ?z_bool ?z_str ?z_dict ?z_all ?z_sum ?z_abs ?z_range ?z_enumerate ?z_zip ?z_sorted ?z_set ?z_repr ?g_L ?g_F ?g_N ?cl1 ?cl2 ?cl3 ?cl4 ?d1 ?d2 ?d3
    (case a_law => k_is)
    (case l_law => k_is)
    (case c_law => k_is)
    (case k_law => k_is)
    (case a_st => k_is)
    (case l_st => k_is)
    (case c_st => k_is)
    (case k_st => k_is)
    (case a_qd => k_is)
    (case l_qd => k_is)
    (case c_qd => k_is)
    (case k_qd => k_is)
    (case a_dr => k_is)
    (case l_dr => k_is)
    (case c_dr => k_is)
    (case k_dr => k_is)
    (case a_pk => k_is)
    (case l_pk => k_is)
    (case c_pk => k_is)
    (case k_pk => k_is)
    (case a_mx => k_is)
    (case l_mx => k_is)
    (case c_mx => k_is)
    (case k_mx => k_is)
    (case a_qn => k_is)
    (case l_qn => k_is)
    (case c_qn => k_is)
    (case k_qn => k_is)
    (case a_qh => k_is)
    (case l_qh => k_is)
    (case c_qh => k_is)
    (case k_qh => k_is)
    (case a_qc => k_is)
    (case l_qc => k_is)
    (case c_qc => k_is)
    (case k_qc => k_is)
    (case a_qcs => k_is)
    (case l_qcs => k_is)
    (case c_qcs => k_is)
    (case k_qcs => k_is)
    (case a_to => k_is)
    (case l_to => k_is)
    (case c_to => k_is)
    (case k_to => k_is)
    (case a_sa => k_is)
    (case l_sa => k_is)
    (case c_sa => k_is)
    (case k_sa => k_is)
    (case a_pa => k_is)
    (case l_pa => k_is)
    (case c_pa => k_is)
    (case k_pa => k_is)
    (case a_la => k_is)
    (case l_la => k_is)
    (case c_la => k_is)
    (case k_la => k_is)
    (case a_lo => k_is)
    (case l_lo => k_is)
    (case c_lo => k_is)
    (case k_lo => k_is)
    (case a_li => k_is)
    (case l_li => k_is)
    (case c_li => k_is)
    (case k_li => k_is)
    (case a_ma => k_is)
    (case l_ma => k_is)
    (case c_ma => k_is)
    (case k_ma => k_is)
    (case a_ne => k_is)
    (case l_ne => k_is)
    (case c_ne => k_is)
    (case k_ne => k_is)
    (case a_on => k_is)
    (case l_on => k_is)
    (case c_on => k_is)
    (case k_on => k_is)
    (case a_ap => k_is)
    (case l_ap => k_is)
    (case c_ap => k_is)
    (case k_ap => k_is)
    (case a_me => k_is)
    (case l_me => k_is)
    (case c_me => k_is)
    (case k_me => k_is)
    (case a_bm => k_is)
    (case l_bm => k_is)
    (case c_bm => k_is)
    (case k_bm => k_is)
    (case a_bc => k_is)
    (case l_bc => k_is)
    (case c_bc => k_is)
    (case k_bc => k_is)
    (case a_il => k_is)
    (case l_il => k_is)
    (case c_il => k_is)
    (case k_il => k_is)
    (case a_it => k_is)
    (case l_it => k_is)
    (case c_it => k_is)
    (case k_it => k_is)
    (case a_ii => k_is)
    (case l_ii => k_is)
    (case c_ii => k_is)
    (case k_ii => k_is)
    (case a_in_ => k_is)
    (case l_in_ => k_is)
    (case c_in_ => k_is)
    (case k_in_ => k_is)
    (case a_ll => k_is)
    (case l_ll => k_is)
    (case c_ll => k_is)
    (case k_ll => k_is)
    (case a_co => k_is)
    (case l_co => k_is)
    (case c_co => k_is)
    (case k_co => k_is)
    (case a_tu => k_is)
    (case l_tu => k_is)
    (case c_tu => k_is)
    (case k_tu => k_is)
    (case a_bi => k_is)
    (case l_bi => k_is)
    (case c_bi => k_is)
    (case k_bi => k_is)
    (case a_ih => k_is)
    (case l_ih => k_is)
    (case c_ih => k_is)
    (case k_ih => k_is)
    (case a_fm => k_is)
    (case l_fm => k_is)
    (case c_fm => k_is)
    (case k_fm => k_is)
    (case a_fc => k_is)
    (case l_fc => k_is)
    (case c_fc => k_is)
    (case k_fc => k_is)
    (case a_oc => k_is)
    (case l_oc => k_is)
    (case c_oc => k_is)
    (case k_oc => k_is)
    (case a_or => k_is)
    (case l_or => k_is)
    (case c_or => k_is)
    (case k_or => k_is)
    (case p_or => k_is)
    (case q_or => first | rfl | k_is)
    (case n_or => first | rfl | exact rfl | decide +kernel | with_unfolding_all rfl)
    (case a_od => k_is)
    (case l_od => k_is)
    (case c_od => k_is)
    (case k_od => k_is)
    (case p_od => k_is)
    (case q_od => first | rfl | k_is)
    (case n_od => first | rfl | exact rfl | decide +kernel | with_unfolding_all rfl)
    (case a_rf => k_is)
    (case l_rf => k_is)
    (case c_rf => k_is)
    (case k_rf => k_is)
    (case p_rf => k_is)
    (case q_rf => first | rfl | k_is)
    (case n_rf => first | rfl | exact rfl | decide +kernel | with_unfolding_all rfl)
    (case a_e2 => k_is)
    (case x_e2 => exact ⟨_, _, _, _, _, _, _, _, _, _, _, _, _, _, _, by k_is, by first | decide +kernel | rfl⟩)
    (case sa_e2 => k_is)
    (case ex_e2 => k_is)
    (case ty_e2 => k_is)
    (case kC_e2 => k_is)
    (case iC_e2 => k_is)
    (case l_e2 => k_is)
    (case c_e2 => k_is)
    (case k_e2 => k_is)
    (case tI_e2 => k_is)
    (case no_e2 => k_is)
    (case ga_e2 => k_is)
    (case gg_e2 => k_is)
    (case hd_e2 => k_is)
    (case a_e3 => k_is)
    (case x_e3 => exact ⟨_, _, _, _, _, _, _, _, _, _, _, _, _, _, _, by k_is, by first | decide +kernel | rfl⟩)
    (case sa_e3 => k_is)
    (case ex_e3 => k_is)
    (case ty_e3 => k_is)
    (case kC_e3 => k_is)
    (case iC_e3 => k_is)
    (case l_e3 => k_is)
    (case c_e3 => k_is)
    (case k_e3 => k_is)
    (case tI_e3 => k_is)
    (case no_e3 => k_is)
    (case ga_e3 => k_is)
    (case gg_e3 => k_is)
    (case hd_e3 => k_is)
    (case a_e4 => k_is)
    (case x_e4 => exact ⟨_, _, _, _, _, _, _, _, _, _, _, _, _, _, _, by k_is, by first | decide +kernel | rfl⟩)
    (case sa_e4 => k_is)
    (case ex_e4 => k_is)
    (case ty_e4 => k_is)
    (case kC_e4 => k_is)
    (case iC_e4 => k_is)
    (case l_e4 => k_is)
    (case c_e4 => k_is)
    (case k_e4 => k_is)
    (case tI_e4 => k_is)
    (case no_e4 => k_is)
    (case ga_e4 => k_is)
    (case gg_e4 => k_is)
    (case hd_e4 => k_is)
    (case m22 => first | rfl | k_is)
    (case m32 => first | rfl | k_is)
    (case m33 => first | rfl | k_is)
    (case m42 => first | rfl | k_is)
    (case m43 => first | rfl | k_is)
    (case m44 => first | rfl | k_is)
    (case a_Q => k_is)
    (case pg_Q => k_is)
    (case hd_Q => k_is)
    (case po_Q => k_is)
    (case sa_Q => k_is)
    (case mk_Q => k_is)
    (case kp_Q => k_is)
    (case no0 => k_is)
    (case no1 => k_is)
    (case no2 => k_is)
    (case no3 => k_is)
    (case no4 => k_is)
    (case no5 => k_is)
    (case no6 => k_is)
    (case no7 => k_is)
    (case no8 => k_is)
    (case at_qi => k_is)
    (case l_qi => k_is)
    (case c_qi => k_is)
    (case k_qi => k_is)
    (case fn_qi => k_is)
    (case at_qm => k_is)
    (case l_qm => k_is)
    (case c_qm => k_is)
    (case k_qm => k_is)
    (case fn_qm => k_is)
    (case at_qw => k_is)
    (case l_qw => k_is)
    (case c_qw => k_is)
    (case k_qw => k_is)
    (case fn_qw => k_is)
    (case at_qg => k_is)
    (case l_qg => k_is)
    (case c_qg => k_is)
    (case k_qg => k_is)
    (case fn_qg => k_is)
    (case at_qe => k_is)
    (case l_qe => k_is)
    (case c_qe => k_is)
    (case k_qe => k_is)
    (case fn_qe => k_is)
    (case ne_Q => k_is)
    (case ob_Q => k_is)
    (case nt_Q => k_is)
    (case ns_Q => k_is)
    (case kt_Q => first | k_is | rfl | decide +kernel | with_unfolding_all rfl)
    (case ks_Q => first | k_is | rfl | decide +kernel | with_unfolding_all rfl)
    (case z_isinstance => k_is)
    (case z_len => k_is)
    (case z_list => k_is)
    (case z_tuple => k_is)
    (case z_int => k_is)
    (case z_bool => k_is)
    (case z_str => k_is)
    (case z_dict => k_is)
    (case z_all => k_is)
    (case z_sum => k_is)
    (case z_abs => k_is)
    (case z_range => k_is)
    (case z_enumerate => k_is)
    (case z_zip => k_is)
    (case z_sorted => k_is)
    (case z_set => k_is)
    (case z_repr => k_is)
    (case g_L => k_is)
    (case g_F => k_is)
    (case g_N => k_is)
    (case cl1 => k_is)
    (case cl2 => k_is)
    (case cl3 => k_is)
    (case cl4 => k_is)
    (case d1 => first | decide | (intro z; cases z))
    (case d2 => first | decide | (intro z; cases z))
    (case d3 => first | decide | (intro z; cases z))

