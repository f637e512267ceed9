import PyProof.Rows.All
import Wide.All
import OpenK.AllK
import Wide.FinOn
import HandS.ForMost
import HandS.IsInst
import PySem.Challenge.RW_marksinturn_k35_whole_sums_for_ever
import HandS.Steps
import HandS.Walk
import HandS.SetKeys
import HandS.NoneIn
import HandS.WordsDict
import KE.GoesMore
import KE.GoesEnum
import HandS.Lambda
import KE.SortKeyHeap
import KE.SortData
import HandS.ExcInit
import HandS.WordsExc
import HandS.DictComp
import KE.KDictZip
import HandS.Conv
import HandS.Style
import HandS.StrMore
import HandS.Zip
import HandS.ListItems
import PyProof.ReprReads
import PyProof.ReprRoads
import HandS.ExcField
import PyProof.FString3
import PyProof.Rows.StrIntSpec
import HandS.FStr
import HandS.WideBits
import HandS.Text
import HandS.SetFor
import PyProof.WalksMore
import PyProof.TupleIter
import PyProof.Rows.SetFrom
import HandS.More
import HandS.Small
import HandS.Deep
import PyProof.ReprLen
import HandS.EndTab
import HandS.HeadWalk
set_option Elab.async false
set_option linter.all false
set_option maxRecDepth 100000
set_option maxHeartbeats 2000000
namespace Q1
open PySem L2
def top (i : Nat) : Stmt := PySem.Challenge.pw_marksinturn_k35_whole_sums_for_ever.main.body.getD i (.Pass ⟨0, 0, 0, 0⟩)
/-- a def of the top, where it stands -/
structure Dn (K : PySem.W.Frag) (mg : Str → Option Value) (x : Str) (st : Stmt) (ps : List Str) where
  f : Addr
  fd : FuncData
  F : Fun K x x st f fd
  b : Binds K fd ps []
  g : mg x = some (.ref f)
/-- built-in names that the text does not bind -/
structure Bt (mg : Str → Option Value) : Prop where
  isi : mg "isinstance" = none
  len : mg "len" = none
  lst : mg "list" = none
  tup : mg "tuple" = none
  int : mg "int" = none
  bool : mg "bool" = none
  str : mg "str" = none
  dict : mg "dict" = none
  all : mg "all" = none
  sum : mg "sum" = none
  abs : mg "abs" = none
  range : mg "range" = none
  enumerate : mg "enumerate" = none
  zip : mg "zip" = none
  sorted : mg "sorted" = none
  set : mg "set" = none
  repr : mg "repr" = none
/-- data without the heap -/
inductive D where
  | non | bl (b : Bool) | int (i : Int) | str (s : Str) | lst (xs : List D) | tup (xs : List D) | dic
mutual
/-- a datum stands at v, its lists at addresses of S -/
def Rep (S : Addr → Prop) (H : Hp) : D → V → Prop
  | .non, v => v = .non
  | .bl b, v => v = .bl b
  | .int i, v => v = .int i
  | .str s, v => v = .str s
  | .lst xs, v => ∃ a vs, v = .ref a ∧ S a ∧ H a = some (.lst vs) ∧ Reps S H xs vs
  | .tup xs, v => ∃ a vs, v = .ref a ∧ H a = some (.tup vs) ∧ Reps S H xs vs
  | .dic, v => ∃ a, v = .ref a ∧ H a = some (.dK [])
def Reps (S : Addr → Prop) (H : Hp) : List D → List V → Prop
  | [], vs => vs = []
  | x :: xs, vs => ∃ v r, vs = v :: r ∧ Rep S H x v ∧ Reps S H xs r
end
/-- what a datum leans on stays -/
def Nd (S : Addr → Prop) (a : Addr) (o : HO) : Prop := (∃ vs, o = .lst vs ∧ S a) ∨ (∃ vs, o = .tup vs) ∨ o = .dK []
def Stay (S : Addr → Prop) (H H' : Hp) : Prop := ∀ a o, H a = some o → Nd S a o → H' a = some o
theorem stay_upd {S : Addr → Prop} {H : Hp} {p : Addr} {o u : HO} (h : H p = some u) (hn : ¬ Nd S p u) : Stay S H (upd H p o) := fun a x e n => by
  have : a ≠ p := fun q => by
    subst q
    rw [h] at e
    cases e
    exact hn n
  rw [upd_ne this]
  exact e
theorem Stay.trans {S : Addr → Prop} {H H1 H2 : Hp} (a : Stay S H H1) (b : Stay S H1 H2) : Stay S H H2 := fun x o h n => b x o (a x o h n) n
theorem Stay.weak {S S' : Addr → Prop} {H H1 : Hp} (a : Stay S H H1) (hs : ∀ a, S' a → S a) : Stay S' H H1 := fun x o h n => a x o h (n.elim (fun ⟨vs, e, s⟩ => .inl ⟨vs, e, hs _ s⟩) .inr)
theorem nd_lst {S : Addr → Prop} {a : Addr} {vs : List V} (h : ¬ S a) : ¬ Nd S a (.lst vs) := fun n => by
  rcases n with ⟨_, e, s⟩ | ⟨_, e⟩ | e
  · exact h s
  · cases e
  · cases e
theorem nd_ext {S : Addr → Prop} {a : Addr} {f : Heap → Prop} : ¬ Nd S a (.ext f) := fun n => by
  rcases n with ⟨_, e, s⟩ | ⟨_, e⟩ | e <;> cases e
theorem stay_of {S : Addr → Prop} {H H' : Hp} (h : Same H H') : Stay S H H' := fun a o e _ => h a o e
mutual
theorem Rep.mono {S S' : Addr → Prop} {H H' : Hp} (hs : ∀ a, S a → S' a) (e : Stay S H H') : ∀ {d : D} {v : V}, Rep S H d v → Rep S' H' d v
  | .non, _, h => h
  | .bl _, _, h => h
  | .int _, _, h => h
  | .str _, _, h => h
  | .lst xs, _, h => by
    obtain ⟨a, vs, rfl, sa, ha, r⟩ := h
    exact ⟨a, vs, rfl, hs a sa, e a _ ha (.inl ⟨_, rfl, sa⟩), Reps.mono hs e r⟩
  | .tup xs, _, h => by
    obtain ⟨a, vs, rfl, ha, r⟩ := h
    exact ⟨a, vs, rfl, e a _ ha (.inr (.inl ⟨_, rfl⟩)), Reps.mono hs e r⟩
  | .dic, _, h => by
    obtain ⟨a, rfl, ha⟩ := h
    exact ⟨a, rfl, e a _ ha (.inr (.inr rfl))⟩
theorem Reps.mono {S S' : Addr → Prop} {H H' : Hp} (hs : ∀ a, S a → S' a) (e : Stay S H H') : ∀ {ds : List D} {vs : List V}, Reps S H ds vs → Reps S' H' ds vs
  | [], _, h => h
  | d :: ds, _, h => by
    obtain ⟨v, r, rfl, h1, h2⟩ := h
    exact ⟨v, r, rfl, Rep.mono hs e h1, Reps.mono hs e h2⟩
end
theorem Rep.same {S : Addr → Prop} {H H' : Hp} {d : D} {v : V} (h : Rep S H d v) (e : Same H H') : Rep S H' d v := Rep.mono (fun _ s => s) (stay_of e) h
theorem Reps.same {S : Addr → Prop} {H H' : Hp} {d : List D} {v : List V} (h : Reps S H d v) (e : Same H H') : Reps S H' d v := Reps.mono (fun _ s => s) (stay_of e) h
theorem Reps.length {S : Addr → Prop} {H : Hp} : ∀ {ds : List D} {vs : List V}, Reps S H ds vs → vs.length = ds.length
  | [], _, h => by cases h; rfl
  | d :: ds, _, h => by
    obtain ⟨v, r, rfl, _, h2⟩ := h
    rw [List.length_cons, List.length_cons, Reps.length h2]
theorem Reps.get {S : Addr → Prop} {H : Hp} : ∀ {ds : List D} {vs : List V} {i : Nat} {v : V}, Reps S H ds vs → vs[i]? = some v → ∃ d, ds[i]? = some d ∧ Rep S H d v
  | [], _, i, v, h, e => by cases h; simp at e
  | d :: ds, _, 0, v, h, e => by
    obtain ⟨u, r, rfl, h1, _⟩ := h
    cases (show some u = some v from e)
    exact ⟨d, rfl, h1⟩
  | d :: ds, _, i + 1, v, h, e => by
    obtain ⟨u, r, rfl, _, h2⟩ := h
    obtain ⟨x, h3, h4⟩ := Reps.get (i := i) h2 (show r[i]? = some v from e)
    exact ⟨x, h3, h4⟩
theorem Reps.append {S : Addr → Prop} {H : Hp} : ∀ {ds es : List D} {vs us : List V}, Reps S H ds vs → Reps S H es us → Reps S H (ds ++ es) (vs ++ us)
  | [], _, _, _, h, k => by cases h; exact k
  | d :: ds, _, _, _, h, k => by
    obtain ⟨v, r, rfl, h1, h2⟩ := h
    exact ⟨v, r ++ _, rfl, h1, Reps.append h2 k⟩
theorem Reps.one {S : Addr → Prop} {H : Hp} {d : D} {v : V} (h : Rep S H d v) : Reps S H [d] [v] := ⟨v, [], rfl, h, rfl⟩
theorem Same.new {H : Hp} {p : Addr} {o : HO} (h : H p = none) : Same H (upd H p o) := fun a u e => by
  rw [upd_ne (ne_of_none e h)]
  exact e
/-- the class of a datum -/
def D.ty : D → String
  | .non => "NoneType" | .bl _ => "bool" | .int _ => "int" | .str _ => "str" | .lst _ => "list" | .tup _ => "tuple" | .dic => "dict"
theorem Rep.ty {S : Addr → Prop} {K : PySem.W.Frag} {H : Hp} {d : D} {v : V} (h : Rep S H d v) : TyX K H v (.type d.ty) := by
  cases d with
  | non => cases h; exact .base .non
  | bl b => cases h; exact .base (.bl b)
  | int i => cases h; exact .base (.int i)
  | str s => cases h; exact .base (.str s)
  | lst xs => obtain ⟨a, vs, rfl, _, h, _⟩ := h; exact .base (.lst h)
  | tup xs => obtain ⟨a, vs, rfl, h, _⟩ := h; exact .base (.tup h)
  | dic => obtain ⟨a, rfl, h⟩ := h; exact .base (.dK h)
/-- a list or a tuple: its items -/
def D.items? : D → Option (List D)
  | .lst xs => some xs | .tup xs => some xs | _ => none
def D.isList (d : D) : Bool := d.items?.isSome
theorem Rep.seq {S : Addr → Prop} {K : PySem.W.Frag} {H : Hp} {d : D} {v : V} {xs : List D} (h : Rep S H d v) (e : d.items? = some xs) : ∃ a vs, v = .ref a ∧ (SqL K H a vs ∨ SqT K H a vs) ∧ Reps S H xs vs := by
  cases d with
  | lst ys =>
    cases (show some ys = some xs from e)
    obtain ⟨a, vs, rfl, _, h, r⟩ := h
    exact ⟨a, vs, rfl, .inl (SqL.of h), r⟩
  | tup ys =>
    cases (show some ys = some xs from e)
    obtain ⟨a, vs, rfl, h, r⟩ := h
    exact ⟨a, vs, rfl, .inr (SqT.of h), r⟩
  | _ => cases e
theorem kit2 {K : PySem.W.Frag} {a b c : String} (x y : Bool) (h : kitB a b = some x) (h2 : kitB a c = some y) : PySem.W.kitAny K (.type a) [.type b, .type c] = some (x || y) :=
  kitAny_cons (kit_ty h) (fun e => kitAny_cons (kit_ty h2) (fun e2 => by rw [e, e2]; exact kitAny_nil) (fun e2 => by rw [e2]; exact Bool.or_true _)) (fun e => by rw [e]; rfl)
theorem kit_list {K : PySem.W.Frag} (d : D) : PySem.W.kitAny K (.type d.ty) [.type "list", .type "tuple"] = some d.isList := by
  cases d with
  | non => exact kit2 (a := "NoneType") false false (by decide +kernel) (by decide +kernel)
  | bl _ => exact kit2 (a := "bool") false false (by decide +kernel) (by decide +kernel)
  | int _ => exact kit2 (a := "int") false false (by decide +kernel) (by decide +kernel)
  | str _ => exact kit2 (a := "str") false false (by decide +kernel) (by decide +kernel)
  | lst _ => exact kit2 (a := "list") true false (by decide +kernel) (by decide +kernel)
  | tup _ => exact kit2 (a := "tuple") false true (by decide +kernel) (by decide +kernel)
  | dic => exact kit2 (a := "dict") false false (by decide +kernel) (by decide +kernel)
def D.isInt : D → Bool
  | .int _ => true | .bl _ => true | _ => false
def D.isBool : D → Bool
  | .bl _ => true | _ => false
def D.isStr : D → Bool
  | .str _ => true | _ => false
def D.isLst : D → Bool
  | .lst _ => true | _ => false
def D.isTup : D → Bool
  | .tup _ => true | _ => false
def D.isDic : D → Bool
  | .dic => true | _ => false
theorem kit_int {K : PySem.W.Frag} (d : D) : PySem.W.kitOne K (.type d.ty) (.type "int") = some d.isInt := by
  cases d with
  | non => exact kit_ty (a := "NoneType") (r := false) (by decide +kernel)
  | bl _ => exact kit_ty (a := "bool") (r := true) (by decide +kernel)
  | int _ => exact kit_ty (a := "int") (r := true) (by decide +kernel)
  | str _ => exact kit_ty (a := "str") (r := false) (by decide +kernel)
  | lst _ => exact kit_ty (a := "list") (r := false) (by decide +kernel)
  | tup _ => exact kit_ty (a := "tuple") (r := false) (by decide +kernel)
  | dic => exact kit_ty (a := "dict") (r := false) (by decide +kernel)
theorem kit_bool {K : PySem.W.Frag} (d : D) : PySem.W.kitOne K (.type d.ty) (.type "bool") = some d.isBool := by
  cases d with
  | non => exact kit_ty (a := "NoneType") (r := false) (by decide +kernel)
  | bl _ => exact kit_ty (a := "bool") (r := true) (by decide +kernel)
  | int _ => exact kit_ty (a := "int") (r := false) (by decide +kernel)
  | str _ => exact kit_ty (a := "str") (r := false) (by decide +kernel)
  | lst _ => exact kit_ty (a := "list") (r := false) (by decide +kernel)
  | tup _ => exact kit_ty (a := "tuple") (r := false) (by decide +kernel)
  | dic => exact kit_ty (a := "dict") (r := false) (by decide +kernel)
theorem kit_str {K : PySem.W.Frag} (d : D) : PySem.W.kitOne K (.type d.ty) (.type "str") = some d.isStr := by
  cases d with
  | non => exact kit_ty (a := "NoneType") (r := false) (by decide +kernel)
  | bl _ => exact kit_ty (a := "bool") (r := false) (by decide +kernel)
  | int _ => exact kit_ty (a := "int") (r := false) (by decide +kernel)
  | str _ => exact kit_ty (a := "str") (r := true) (by decide +kernel)
  | lst _ => exact kit_ty (a := "list") (r := false) (by decide +kernel)
  | tup _ => exact kit_ty (a := "tuple") (r := false) (by decide +kernel)
  | dic => exact kit_ty (a := "dict") (r := false) (by decide +kernel)
theorem kit_lst {K : PySem.W.Frag} (d : D) : PySem.W.kitOne K (.type d.ty) (.type "list") = some d.isLst := by
  cases d with
  | non => exact kit_ty (a := "NoneType") (r := false) (by decide +kernel)
  | bl _ => exact kit_ty (a := "bool") (r := false) (by decide +kernel)
  | int _ => exact kit_ty (a := "int") (r := false) (by decide +kernel)
  | str _ => exact kit_ty (a := "str") (r := false) (by decide +kernel)
  | lst _ => exact kit_ty (a := "list") (r := true) (by decide +kernel)
  | tup _ => exact kit_ty (a := "tuple") (r := false) (by decide +kernel)
  | dic => exact kit_ty (a := "dict") (r := false) (by decide +kernel)
theorem kit_tup {K : PySem.W.Frag} (d : D) : PySem.W.kitOne K (.type d.ty) (.type "tuple") = some d.isTup := by
  cases d with
  | non => exact kit_ty (a := "NoneType") (r := false) (by decide +kernel)
  | bl _ => exact kit_ty (a := "bool") (r := false) (by decide +kernel)
  | int _ => exact kit_ty (a := "int") (r := false) (by decide +kernel)
  | str _ => exact kit_ty (a := "str") (r := false) (by decide +kernel)
  | lst _ => exact kit_ty (a := "list") (r := false) (by decide +kernel)
  | tup _ => exact kit_ty (a := "tuple") (r := true) (by decide +kernel)
  | dic => exact kit_ty (a := "dict") (r := false) (by decide +kernel)
theorem kit_dic {K : PySem.W.Frag} (d : D) : PySem.W.kitOne K (.type d.ty) (.type "dict") = some d.isDic := by
  cases d with
  | non => exact kit_ty (a := "NoneType") (r := false) (by decide +kernel)
  | bl _ => exact kit_ty (a := "bool") (r := false) (by decide +kernel)
  | int _ => exact kit_ty (a := "int") (r := false) (by decide +kernel)
  | str _ => exact kit_ty (a := "str") (r := false) (by decide +kernel)
  | lst _ => exact kit_ty (a := "list") (r := false) (by decide +kernel)
  | tup _ => exact kit_ty (a := "tuple") (r := false) (by decide +kernel)
  | dic => exact kit_ty (a := "dict") (r := true) (by decide +kernel)
section
variable {P : Program} {w : World} {K : PySem.W.Frag} {mg : Str → Option Value} {base : Heap} {S : Addr → Prop}
/-! ### is_list -/
abbrev sIsList : Stmt := top 4
theorem scIsList : FnScope ["thing"] ["thing"] (defScope sIsList) := ⟨rfl, rfl, rfl, by decide +kernel, rfl, by decide +kernel, by decide +kernel⟩
def spIsList : Sp := fun vs H Q _ => ∃ (S : Addr → Prop) (d : D) (v : V), vs = [v] ∧ Rep S H d v ∧ ∀ H', Same H H' → Q (.bl d.isList) H'
theorem ok_isList (B : Bt mg) (N : Dn K mg "is_list" sIsList ["thing"]) : FnOk P w K mg base CX0 1 N.f N.fd ["thing"] spIsList := by
  refine N.F.ok scIsList (fun vs H Q E h => ?_) (fun cdv A outer s H vs Q E hr h => ?_)
  · obtain ⟨S, d, v, rfl, _⟩ := h
    rfl
  · obtain ⟨S, d, v, rfl, hd, k⟩ := h
    refine ⟨_, pss_one (ps_ret (pe_callB call_isiT (by rfl) B.isi PyProof.Rows.boot_isinstance (pa_cons (pv 0) (pa_cons (pe_tup (pa_cons (pe_bltn (v := .ty "list") rfl B.lst PyProof.Rows.boot_list rfl) (pa_cons (pe_bltn (v := .ty "tuple") rfl B.tup PyProof.Rows.boot_tuple rfl) pa_nil))) pa_nil)))), ?_⟩
    refine ⟨_, rfl, ?_⟩
    refine ⟨by show 2 ≤ sizeLine; decide, fun p hp => ?_⟩
    exact ⟨_, p, _, _, [.type "list", .type "tuple"], _, rfl, upd_same, .cons (.ty "list") (.cons (.ty "tuple") .nil), (hd.same (Same.new hp)).ty, kit_list d, k _ (Same.new hp)⟩
/-! ### is_tuple_of -/
abbrev sIsTupleOf : Stmt := top 5
theorem scIsTupleOf : FnScope ["thing", "length"] ["thing", "length"] (defScope sIsTupleOf) := ⟨rfl, rfl, rfl, by decide +kernel, rfl, by decide +kernel, by decide +kernel⟩
def D.isOf (d : D) (n : Nat) : Bool := match d.items? with
  | some xs => xs.length == n
  | none => false
def spIsTupleOf : Sp := fun vs H Q _ => ∃ (S : Addr → Prop) (d : D) (v : V) (n : Nat), vs = [v, .int n] ∧ Rep S H d v ∧ ∀ H', Same H H' → Q (.bl (d.isOf n)) H'
theorem ok_isTupleOf (B : Bt mg) (N : Dn K mg "is_tuple_of" sIsTupleOf ["thing", "length"]) (NL : Dn K mg "is_list" sIsList ["thing"]) : FnOk P w K mg base CX0 2 N.f N.fd ["thing", "length"] spIsTupleOf := by
  have G : FnOk P w K mg base CX0 1 NL.f NL.fd ["thing"] spIsList := ok_isList B NL
  refine N.F.ok scIsTupleOf (fun vs H Q E h => ?_) (fun cdv A outer s H vs Q E hr h => ?_)
  · obtain ⟨S, d, v, n, rfl, _⟩ := h
    rfl
  · obtain ⟨S, d, v, n, rfl, hd, k⟩ := h
    refine ⟨_, pss_one (ps_ret (pe_and (pe_call G hr rfl NL.g NL.F.kp NL.b .nil pass0 (pa_cons (pv 0) pa_nil))
      (pe_one (pe_cmpR op_eq (pe_callB call_len_seq (by rfl) B.len PySem.boot_len (pa_cons (pv 0) pa_nil)) (pv 1) (nomark _))))), ?_⟩
    refine ⟨_, rfl, S, d, v, rfl, hd, fun H' hs => ⟨_, rfl, ?_⟩⟩
    cases e : d.items? with
    | none =>
      have e1 : d.isList = false := by unfold D.isList; rw [e]; rfl
      have e2 : d.isOf n = false := by unfold D.isOf; rw [e]
      rw [e1]
      refine iteF ?_
      rw [← e2]
      exact k _ hs
    | some xs =>
      have e1 : d.isList = true := by unfold D.isList; rw [e]; rfl
      have e2 : d.isOf n = (xs.length == n) := by unfold D.isOf; rw [e]
      rw [e1]
      refine iteT ?_
      obtain ⟨a, us, rfl, hq, r⟩ := (hd.same hs).seq (K := K) e
      refine ⟨_, rfl, a, us, rfl, hq, _, rfl, rfl, ?_⟩
      have e3 : decide (V.int (us.length : Int) = V.int n) = (xs.length == n) := by
        rw [r.length]
        by_cases z : xs.length = n
        · rw [z]; simp
        · have z2 : ¬ V.int (xs.length : Int) = V.int n := fun q => z (by injection q with q; omega)
          rw [decide_eq_false z2]
          exact (beq_eq_false_iff_ne.mpr z).symm
      rw [e3, ← e2]
      exact k _ hs
end
end Q1
set_option Elab.async false
set_option linter.all false
set_option maxRecDepth 100000
set_option maxHeartbeats 2000000
namespace Q1
open PySem L2
/-! ### a list or a tuple walked -/
section
variable {X : Cx} {tg : Expr}
def SqA (K : PySem.W.Frag) (H : Hp) (a : Addr) (xs : List V) : Prop := SqL K H a xs ∨ SqT K H a xs
def iSeq (K : PySem.W.Frag) (tl : TE) : TI := fun σ H R => tl σ H fun x H1 => ∃ a, x = .ref a ∧ (((∃ xs, SqL K H1 a xs) ∧ R (Itl K a) H1) ∨ ((∃ xs, SqT K H1 a xs) ∧ R (Itt K a) H1))
theorem pi_seq {l : Expr} {tl : TE} (hl : PE X l tl) : PI X tg l (iSeq X.K tl) := by
  refine ⟨fun pins s σ H R I h => ?_⟩
  refine thn (hl.run pins s σ H _ I h) fun v s1 ⟨x, H1, I1, r1, q1⟩ => ?_
  obtain ⟨a, e, ⟨⟨xs, hq⟩, q⟩ | ⟨⟨xs, hq⟩, q⟩⟩ := q1
  · subst e
    cases r1
    obtain ⟨its, rv, p, hz⟩ := I1.list hq
    refine wpAny_pyIter_list p.isList ?_
    refine ⟨s1.heap.objs.size, [s1.heap.objs.size], _, _, H1, rfl, I1.kept (t' := s1.toks) fun b o e => Heap.get?_push_of_some _ e, turn_list a _, ⟨_, Heap.get?_push_size _ rfl, rfl, rfl⟩, fun b hb => ?_, q⟩
    have e : b = s1.heap.objs.size := by simpa using hb
    subst e
    exact I1.fpOk (Nat.le_refl _) (I1.hok.fresh (Nat.le_refl _))
  · subst e
    cases r1
    obtain ⟨its, rv, p, hz⟩ := I1.tuple hq
    refine wpAny_pyIter_tuple (show s1.heap.IsTuple a its.toArray from p) ?_
    refine ⟨s1.heap.objs.size, [s1.heap.objs.size], _, _, H1, rfl, I1.kept (t' := s1.toks) fun b o e => Heap.get?_push_of_some _ e, turn_tuple a _, ⟨_, Heap.get?_push_size _ rfl, rfl, rfl⟩, fun b hb => ?_, q⟩
    have e : b = s1.heap.objs.size := by simpa using hb
    subst e
    exact I1.fpOk (Nat.le_refl _) (I1.hok.fresh (Nat.le_refl _))
end
section
variable {X : Cx}
theorem gv {x : Str} {v : V} {u : Value} {pos : Pos} (hm : X.mg x = some u) (r : RelV v u) (hg : Gl X x := by rfl) (hd : (x == ("__debug__" : Str)) = false := by decide) : PE X (.Name x pos) (tC v) := pe_glob hg hm r hd
theorem gt {x : Str} {n : String} {pos : Pos} (hm : X.mg x = none) (hv : bootBuiltins x = some (.type n)) (hg : Gl X x := by rfl) (hn : x ≠ "__name__" := by decide) (hd : (x == ("__debug__" : Str)) = false := by decide) : PE X (.Name x pos) (tC (.ty n)) := pe_bltn hg hm hv rfl hn hd
end
theorem Same.at {H H1 : Hp} {D : Addr} {o : HO} (h : Same H H1) (hD : H D = none) : Same H (upd H1 D o) := fun a u e => by
  rw [upd_ne (ne_of_none e hD)]
  exact h a u e
/-! ### is_name -/
section
variable {P : Program} {w : World} {K : PySem.W.Frag} {mg : Str → Option Value} {base : Heap} {S : Addr → Prop}
def sLETTERS : Str := "abcdefghijklmnopqrstuvwxyz"
def sFIGURES : Str := "0123456789"
structure Cs (mg : Str → Option Value) : Prop where
  letters : ∃ t, mg "LETTERS" = some (.str sLETTERS t)
  figures : ∃ t, mg "FIGURES" = some (.str sFIGURES t)
  longest : ∃ t, mg "LONGEST_NAME" = some (.int 8 t)
abbrev sIsName : Stmt := top 6
theorem scIsName : FnScope ["thing", "sign"] ["thing"] (defScope sIsName) := ⟨rfl, rfl, rfl, by decide +kernel, rfl, by decide +kernel, by decide +kernel⟩
def isLetter (c : Nat) : Bool := decide (c ∈ sLETTERS.cps.toList)
def isFigure (c : Nat) : Bool := decide (c ∈ sFIGURES.cps.toList)
def isNameS (s : Str) : Bool := decide (1 ≤ s.length) && (decide (s.length ≤ 8) && (s.cps.toList.head?.any isLetter && s.cps.toList.all fun d => isLetter d || isFigure d))
def D.isName : D → Bool
  | .str s => isNameS s
  | _ => false
def D.short : D → Prop
  | .str s => s.length ≤ sizeLine
  | _ => True
def spIsName : Sp := fun vs H Q _ => ∃ (S : Addr → Prop) (d : D) (v : V), vs = [v] ∧ Rep S H d v ∧ d.short ∧ ∀ H', Same H H' → Q (.bl d.isName) H'
theorem ok_isName (B : Bt mg) (C : Cs mg) (N : Dn K mg "is_name" sIsName ["thing"]) : FnOk P w K mg base CX0 1 N.f N.fd ["thing"] spIsName := by
  refine N.F.ok scIsName (fun vs H Q E h => ?_) (fun cdv A outer s H vs Q E hr h => ?_)
  · obtain ⟨S, d, v, rfl, _⟩ := h
    rfl
  · obtain ⟨S, d, v, rfl, hd, sh, k⟩ := h
    obtain ⟨tL, hL⟩ := C.letters
    obtain ⟨tF, hF⟩ := C.figures
    obtain ⟨tN, hN⟩ := C.longest
    refine ⟨_, pss_cons (ps_if (pw_or (pt_not (pt_val (pe_callB call_isi (by rfl) B.isi PyProof.Rows.boot_isinstance (pa_cons (pv 0) (pa_cons (gt B.str PyProof.Rows.boot_str) pa_nil))) (fun _ => rfl)))
          (pw_or1 (pt_not (pt_chain op_le op_le pe_int (pe_callB call_len_str (by rfl) B.len PySem.boot_len (pa_cons (pv 0) pa_nil)) (gv (v := .int 8) hN ⟨_, rfl⟩))))).pt
        (pss_one (ps_ret pe_bl)) pss_nil)
      (pss_cons (ps_if (pt_cmpR op_notIn_sign (pe_item_str (pv 0) pe_int (fun _ _ => rfl)) (gv (v := .str sLETTERS) hL ⟨_, rfl⟩) (by rfl)) (pss_one (ps_ret pe_bl)) pss_nil)
      (pss_one (ps_ret (pe_callB (cr_all (by rfl)) (by rfl) B.all PyProof.Rows.boot_all (pa_cons (pe_lc (own := [("sign", 1)]) (g := gName 1) (tt := tYes) rfl scIsName.nd (pi_str (pv 0)) (blkOk_by (own := [("sign", 1)]) (N := ["thing", "sign"]) (sc := defScope sIsName) (by decide +kernel)) (fun _ _ _ _ _ => pg_name (i := 1) scIsName.nd rfl (Or.inl rfl)) (fun _ _ _ _ _ => pts_nil)
          (fun _ _ _ _ _ => pe_or (pe_cmpR op_in_sign (pv 1) (gv (v := .str sLETTERS) hL ⟨_, rfl⟩) (by rfl)) (pe_one (pe_cmpR op_in_sign (pv 1) (gv (v := .str sFIGURES) hF ⟨_, rfl⟩) (by rfl))))) pa_nil))))), ?_⟩
    refine ⟨_, rfl, v, .ty "str", _, _, _, rfl, .ty "str", hd.ty, kit_str d, _, rfl, ?_⟩
    cases hs : d.isStr with
    | false =>
      refine iteT (iteT ?_)
      have e : d.isName = false := by cases d <;> first | rfl | cases hs
      show Q (.bl false) _
      rw [← e]
      exact k _ (Same.refl H)
    | true =>
      obtain ⟨z, rfl⟩ : ∃ z, d = .str z := by cases d <;> first | exact ⟨_, rfl⟩ | cases hs
      cases (show v = .str z from hd)
      refine iteF ?_
      refine ⟨_, rfl, z, rfl, sh, _, _, rfl, rfl, _, rfl, ?_⟩
      refine ite2 (fun h1 => ?_) (fun h1 => ?_)
      · have l1 : 1 ≤ z.length := by have := of_decide_eq_true h1; omega
        refine ⟨_, _, rfl, rfl, _, rfl, ?_⟩
        refine ite2 (fun h2 => ?_) (fun h2 => ?_)
        · have l2 : ¬ z.length ≤ 8 := fun q => by
            have e : decide ((z.length : Int) ≤ 8) = true := decide_eq_true (by omega)
            rw [e] at h2
            cases h2
          show Q (.bl false) _
          have e : (D.str z).isName = false := by
            show isNameS z = false
            unfold isNameS
            rw [decide_eq_false l2, Bool.false_and, Bool.and_false]
          rw [← e]
          exact k _ (Same.refl H)
        · have l2 : z.length ≤ 8 := by
            by_cases q : (z.length : Int) ≤ 8
            · omega
            · rw [decide_eq_false q] at h2
              exact absurd rfl h2
          have l3 : 0 < z.cps.size := l1
          refine ⟨_, rfl, z, 0, z.cps[0], rfl, rfl, Int.le_refl 0, by decide, by omega, by simp [l3], _, _, rfl, rfl, _, rfl, ?_⟩
          have hh : z.cps.toList.head? = some z.cps[0] := by
            rw [List.head?_eq_getElem?, Array.getElem?_toList]
            simp [l3]
          have e0 : isNameS z = (isLetter z.cps[0] && z.cps.toList.all fun d => isLetter d || isFigure d) := by
            unfold isNameS
            rw [decide_eq_true l1, decide_eq_true l2, hh]
            rfl
          have e1 : (D.str z).isName = (isLetter z.cps[0] && z.cps.toList.all fun d => isLetter d || isFigure d) := e0
          refine ite2 (fun h3 => ?_) (fun h3 => ?_)
          · show Q (.bl false) _
            have e2 : isLetter z.cps[0] = false := by
              unfold isLetter
              cases q : decide (z.cps[0] ∈ sLETTERS.cps.toList) with
              | false => rfl
              | true => rw [q] at h3; cases h3
            have e : (D.str z).isName = false := by rw [e1, e2, Bool.false_and]
            rw [← e]
            exact k _ (Same.refl H)
          · have e2 : isLetter z.cps[0] = true := by
              unfold isLetter
              cases q : decide (z.cps[0] ∈ sLETTERS.cps.toList) with
              | true => rfl
              | false => rw [q] at h3; exact absurd rfl h3
            refine ⟨_, rfl, z, rfl, fun D0 hD => ?_⟩
            refine lc_it walk_str (fun i H' => Same H H' ∧ H' D0 = some (.lst (((z.cps.toList.take i).map fun d => isLetter d || isFigure d).map V.bl))) ⟨Same.new hD, upd_same⟩ (fun _ _ _ _ => True.intro) ?_ ?_
            · rintro i x H' H2 hi ⟨hs', hl⟩ ⟨rfl, c, hc, rfl⟩
              have hic : z.cps.toList[i]? = some c := by rw [Array.getElem?_toList]; exact hc
              have step : ∀ b, b = (isLetter c || isFigure c) → ((z.cps.toList.take i).map fun d => isLetter d || isFigure d).map V.bl ++ [V.bl b] = ((z.cps.toList.take (i + 1)).map fun d => isLetter d || isFigure d).map V.bl := fun b e => by
                rw [List.take_add_one, hic, e]
                simp
              have fin : ∀ b, b = (isLetter c || isFigure c) → ∃ acc, H2 D0 = some (.lst acc) ∧ acc.length < sizeLine ∧ Same H (upd H2 D0 (.lst (acc ++ [V.bl b]))) ∧ upd H2 D0 (.lst (acc ++ [V.bl b])) D0 = some (.lst (((z.cps.toList.take (i + 1)).map fun d => isLetter d || isFigure d).map V.bl)) := fun b e => by
                refine ⟨_, hl, ?_, Same.at hs' hD, ?_⟩
                · rw [List.length_map, List.length_map, List.length_take]
                  have : z.cps.toList.length = z.length := Array.length_toList
                  exact Nat.lt_of_le_of_lt (Nat.min_le_left _ _) (Nat.lt_of_lt_of_le hi sh)
                · rw [upd_same, step b e]
              refine ⟨rfl, ?_⟩
              refine ⟨_, rfl, c, sLETTERS, rfl, rfl, _, rfl, ?_⟩
              refine ite2 (fun h4 => ?_) (fun h4 => ?_)
              · exact fin true (by unfold isLetter; rw [h4]; rfl)
              · refine ⟨_, rfl, c, sFIGURES, rfl, rfl, ?_⟩
                refine fin _ ?_
                have : isLetter c = false := by
                  unfold isLetter
                  exact Bool.eq_false_iff.mpr h4
                rw [this, Bool.false_or]
                rfl
            · rintro H' ⟨hs', hl⟩
              refine ⟨D0, (z.cps.toList).map (fun d => isLetter d || isFigure d), rfl, SqL.of ?_, ?_⟩
              · rw [hl]
                have : z.cps.toList.take z.cps.size = z.cps.toList := List.take_of_length_le (by rw [Array.length_toList]; exact Nat.le_refl _)
                rw [this]
              · have e3 : (z.cps.toList.map fun d => isLetter d || isFigure d).all id = (D.str z).isName := by
                  rw [e1, e2, Bool.true_and, List.all_map]
                  rfl
                rw [e3]
                exact k _ hs'
      · refine ⟨false, rfl, ?_⟩
        show Q (.bl false) _
        have e : (D.str z).isName = false := by
          show isNameS z = false
          unfold isNameS
          have : ¬ 1 ≤ z.length := fun q => h1 (decide_eq_true (by omega))
          rw [decide_eq_false this, Bool.false_and]
        rw [← e]
        exact k _ (Same.refl H)
end
end Q1
set_option Elab.async false
set_option linter.all false
set_option maxRecDepth 100000
set_option maxHeartbeats 2000000
namespace Q1
open PySem L2
/-! ### folds that may stop -/
def optFold {α β : Type} (f : β → α → Option β) : List α → β → Option β
  | [], b => some b
  | a :: as, b => match f b a with
    | none => none
    | some c => optFold f as c
theorem optFold_append {α β : Type} (f : β → α → Option β) : ∀ (xs ys : List α) (b : β), optFold f (xs ++ ys) b = match optFold f xs b with
    | none => none
    | some c => optFold f ys c
  | [], ys, b => rfl
  | x :: xs, ys, b => by
    show (match f b x with | none => none | some c => optFold f (xs ++ ys) c) = _
    cases e : f b x with
    | none => simp [optFold, e]
    | some c => simp [optFold, e, optFold_append f xs ys c]
theorem optFold_step {α β : Type} {f : β → α → Option β} {xs : List α} {i : Nat} {b c : β} {a : α} (h : optFold f (xs.take i) b = some c) (ha : xs[i]? = some a) : optFold f (xs.take (i + 1)) b = f c a := by
  rw [List.take_add_one, ha, optFold_append, h]
  show (match f c a with | none => none | some d => some d) = f c a
  cases f c a <;> rfl
theorem optFold_none {α β : Type} {f : β → α → Option β} {xs : List α} {i : Nat} {b c : β} {a : α} (h : optFold f (xs.take i) b = some c) (ha : xs[i]? = some a) (hn : f c a = none) : optFold f xs b = none := by
  have e := optFold_step h ha
  rw [hn] at e
  have e2 := optFold_append f (xs.take (i + 1)) (xs.drop (i + 1)) b
  rw [List.take_append_drop, e] at e2
  exact e2
theorem seqT {K : PySem.W.Frag} {H H' : Hp} {a : Addr} {xs : List V} (e : Same H H') (h : SqT K H a xs) : SqT K H' a xs := by
  rcases h with (h | ⟨o, h⟩) | h
  · exact .inl (.inl (e _ _ h))
  · exact .inl (.inr ⟨o, e _ _ h⟩)
  · exact .inr h
/-! ### unpacking a list or a tuple -/
section
variable {X : Cx} {pos : Pos}
def gSeq (K : PySem.W.Frag) (n : Nat) (t : TGs) : TG := fun v σ H Q => ∃ a xs, v = .ref a ∧ (SqL K H a xs ∨ SqT K H a xs) ∧ xs.length = n ∧ t xs σ H Q
theorem pg_seq {es : List Expr} {k : Nat} {t : TGs} {n : Nat} (hc : X.calm = true) (h : PGs X es t)
    (hn : (assignEach es X.env).length = n := by rfl) (hst : (assignEach es X.env).findIdx? (·.1) = none := by rfl) : PG X (.Tuple es k pos) (gSeq X.K n t) := by
  refine ⟨fun pins s σ H v u Q I r hw => ?_⟩
  obtain ⟨a, xs, e1, hq, hl, hw⟩ := hw
  rcases hq with hq | hq
  · exact (pg_unl hc h hn hst).run pins s σ H v u Q I r ⟨a, xs, e1, hq, hl, hw⟩
  · exact (pg_tup hc h hn hst).run pins s σ H v u Q I r ⟨a, xs, e1, hq, hl, hw⟩
/-- a walk over a list or a tuple that stands in what stays -/
theorem for_seq {K : PySem.W.Frag} {a : Addr} {xs : List V} {g : TG} {tb : TS} {D : Ends} {σ : L2.St} {H Hb : Hp} (hq : SqL K Hb a xs ∨ SqT K Hb a xs) (Pv : Nat → L2.St → Hp → Prop) (h0 : Pv 0 σ H) (hS : ∀ i σ H', i ≤ xs.length → Pv i σ H' → Same Hb H')
    (hs : ∀ i x σ H', xs[i]? = some x → Pv i σ H' → g x σ H' fun σ2 H2 => tb { D with nx := Pv (i + 1), ct := Pv (i + 1), bk := D.nx } σ2 H2) (hd : ∀ σ H', Pv xs.length σ H' → D.nx σ H') :
    (((∃ xs, SqL K H a xs) ∧ (fun J H => ∃ W : Nat → Nat → L2.St → Hp → Prop, (∃ m, W 0 m σ H) ∧ ∀ i m σ H, W i m σ H → (It.stop J i H ∧ D.nx σ H) ∨ (It.go J i H ∧ ∃ N : L2.St → Hp → Prop, (∀ σ' H', N σ' H' → ∃ m', m' < m ∧ W (i + 1) m' σ' H') ∧ ∀ x H', It.yld J i H x H' → g x σ H' fun σ2 H2 => tb { D with nx := N, ct := N, bk := D.nx } σ2 H2)) (Itl K a) H) ∨
    ((∃ xs, SqT K H a xs) ∧ (fun J H => ∃ W : Nat → Nat → L2.St → Hp → Prop, (∃ m, W 0 m σ H) ∧ ∀ i m σ H, W i m σ H → (It.stop J i H ∧ D.nx σ H) ∨ (It.go J i H ∧ ∃ N : L2.St → Hp → Prop, (∀ σ' H', N σ' H' → ∃ m', m' < m ∧ W (i + 1) m' σ' H') ∧ ∀ x H', It.yld J i H x H' → g x σ H' fun σ2 H2 => tb { D with nx := N, ct := N, bk := D.nx } σ2 H2)) (Itt K a) H)) := by
  have b0 := hS 0 σ H (Nat.zero_le _) h0
  rcases hq with hq | hq
  · refine .inl ⟨⟨xs, b0.seq hq⟩, for_it walk_list Pv h0 (fun i σ' H' hi p => (hS i σ' H' hi p).seq hq) (fun i x σ' H' H2 hi p y => ?_) hd⟩
    obtain ⟨rfl, hx⟩ := y
    exact hs i x σ' _ hx p
  · refine .inr ⟨⟨xs, seqT b0 hq⟩, for_it walk_tup Pv h0 (fun i σ' H' hi p => seqT (hS i σ' H' hi p) hq) (fun i x σ' H' H2 hi p y => ?_) hd⟩
    obtain ⟨rfl, hx⟩ := y
    exact hs i x σ' _ hx p
end
/-! ### literal_list -/
section
variable {P : Program} {w : World} {K : PySem.W.Frag} {mg : Str → Option Value} {base : Heap}
abbrev sLits : Stmt := top 8
abbrev nLits : List Str := ["places", "thing", "found", "seen", "one", "mark", "truth"]
theorem scLits : FnScope nLits ["places", "thing"] (defScope sLits) := ⟨rfl, rfl, rfl, by decide +kernel, rfl, by decide +kernel, by decide +kernel⟩
def lit2 (names : List Str) : D → D → Option (Str × Bool)
  | .str m, .bl t => if m ∈ names then some (m, t) else none
  | _, _ => none
def lit1 (names : List Str) (d : D) : Option (Str × Bool) := match d.items? with
  | some [a, b] => lit2 names a b
  | _ => none
theorem lit2_out {names : List Str} {m : Str} (h : ¬ m ∈ names) (q : D) : lit2 names (.str m) q = none := by
  cases q <;> first | rfl | exact if_neg h
def litS (names : List Str) (acc : List (Str × Bool)) (d : D) : Option (List (Str × Bool)) := match lit1 names d with
  | none => none
  | some l => if l.1 ∈ acc.map Prod.fst then none else some (acc ++ [l])
def litsOf (names : List Str) (d : D) : Option (List (Str × Bool)) := match d.items? with
  | none => none
  | some ds => optFold (litS names) ds []
def litD (l : Str × Bool) : D := .tup [.str l.1, .bl l.2]
def litsD (ls : List (Str × Bool)) : D := .lst (ls.map litD)
/-- the dict from names to their places -/
def placesF : Nat → List Str → List (Key × V)
  | _, [] => []
  | n, m :: ms => (Sum.inr m, V.int (n : Nat)) :: placesF (n + 1) ms
def placesK (names : List Str) : List (Key × V) := placesF 0 names
theorem placesF_get : ∀ (names : List Str) (n : Nat) (m : Str), valV (placesF n names) (Sum.inr m) = if m ∈ names then some (V.int ((n + names.idxOf m : Nat) : Int)) else none
  | [], n, m => by rw [if_neg (fun h => nomatch h)]; rfl
  | x :: xs, n, m => by
    show valV ((Sum.inr x, V.int (n : Nat)) :: placesF (n + 1) xs) (Sum.inr m) = _
    by_cases e : x = m
    · subst e
      rw [valV_pos rfl, if_pos List.mem_cons_self, List.idxOf_cons_self]
      rfl
    · rw [valV_neg (fun q => e (Sum.inr.inj q)), placesF_get xs (n + 1) m]
      have h1 : (m ∈ x :: xs) ↔ m ∈ xs := by
        rw [List.mem_cons]
        exact ⟨fun h => h.elim (fun z => absurd z.symm e) id, .inr⟩
      have h2 : (x :: xs).idxOf m = xs.idxOf m + 1 := by
        rw [List.idxOf_cons]
        have : (x == m) = false := beq_eq_false_iff_ne.mpr e
        rw [this]
        rfl
      by_cases h : m ∈ xs
      · rw [if_pos h, if_pos (h1.mpr h), h2, Nat.add_assoc, Nat.add_comm 1]
      · rw [if_neg h, if_neg (fun z => h (h1.mp z))]
theorem placesK_at {names : List Str} {m : Str} (h : m ∈ names) : valV (placesK names) (Sum.inr m) = some (V.int ((names.idxOf m : Nat) : Int)) := by
  unfold placesK
  rw [placesF_get, if_pos h, Nat.zero_add]
def D.small (d : D) : Prop := match d.items? with
  | some ds => ds.length ≤ 1000
  | none => True
/-- texts in a set -/
def inS (ms : List Str) : Key → Bool
  | .inl _ => false
  | .inr m => decide (m ∈ ms)
theorem inS_nil : inS [] = fun _ => false := by
  funext k
  cases k with
  | inl _ => rfl
  | inr m => simp [inS]
theorem inS_add (ms : List Str) (m : Str) : (fun j => inS ms j || decide (j = (Sum.inr m : Key))) = inS (ms ++ [m]) := by
  funext j
  cases j with
  | inl i => show (false || decide ((Sum.inl i : Key) = Sum.inr m)) = false; rw [key_lr]; rfl
  | inr x =>
    show (decide (x ∈ ms) || decide ((Sum.inr x : Key) = Sum.inr m)) = decide (x ∈ ms ++ [m])
    rw [key_rr]
    by_cases h : x ∈ ms
    · simp [h]
    · by_cases e : x = m
      · simp [e]
      · simp [h, e]
def New (H : Hp) : Addr → Prop := fun a => H a = none
def spLits : Sp := fun vs H Q _ => ∃ (S : Addr → Prop) (d : D) (v : V) (pl : Addr) (names : List Str), vs = [.ref pl, v] ∧ H pl = some (.dK (placesK names)) ∧ Rep S H d v ∧ d.small ∧
  (∀ H', Same H H' → litsOf names d = none → Q .non H') ∧ ∀ H' r ls, Same H H' → litsOf names d = some ls → Rep (New H) H' (litsD ls) r → Q r H'
/-- the same over any dict whose text keys are the names -/
def spLitsG : Sp := fun vs H Q _ => ∃ (S : Addr → Prop) (d : D) (v : V) (pl : Addr) (kvs : List (Key × V)) (names : List Str), vs = [.ref pl, v] ∧ H pl = some (.dK kvs) ∧ (∀ m, (valV kvs (Sum.inr m)).isSome = decide (m ∈ names)) ∧ Rep S H d v ∧ d.small ∧
  (∀ H', Same H H' → litsOf names d = none → Q .non H') ∧ ∀ H' r ls, Same H H' → litsOf names d = some ls → Rep (New H) H' (litsD ls) r → Q r H'
theorem placesK_get (names : List Str) (m : Str) : (valV (placesK names) (Sum.inr m)).isSome = decide (m ∈ names) := by
  unfold placesK
  rw [placesF_get]
  by_cases h : m ∈ names
  · rw [if_pos h, decide_eq_true h]; rfl
  · rw [if_neg h, decide_eq_false h]; rfl
theorem ok_litsG (B : Bt mg) (N : Dn K mg "literal_list" sLits ["places", "thing"]) (NL : Dn K mg "is_list" sIsList ["thing"]) (NT : Dn K mg "is_tuple_of" sIsTupleOf ["thing", "length"]) : FnOk P w K mg base CX0 3 N.f N.fd ["places", "thing"] spLitsG := by
  have GL : FnOk P w K mg base CX0 1 NL.f NL.fd ["thing"] spIsList := ok_isList B NL
  have GT : FnOk P w K mg base CX0 2 NT.f NT.fd ["thing", "length"] spIsTupleOf := ok_isTupleOf B NT NL
  refine N.F.ok scLits (fun vs H Q E h => ?_) (fun cdv A outer s H vs Q E hr h => ?_)
  · obtain ⟨S, d, v, pl, kvs, names, rfl, _⟩ := h
    rfl
  · obtain ⟨S, d, v, pl, kvs, names, rfl, hpl, hkv, hd, sm, k0, k1⟩ := h
    have hu := hu_of hr
    refine ⟨_, pss_cons (ps_if (pt_not (pt_val (pe_call GL (hr.mono (by decide)) rfl NL.g NL.F.kp NL.b .nil pass0 (pa_cons (pv 1) pa_nil)) (fun _ => rfl))) (pss_one (ps_ret pe_non)) pss_nil)
      (pss_cons (ps_set (i := 2) scLits.nd rfl (Or.inl rfl) (pe_lst pa_nil))
      (pss_cons (ps_set (i := 3) scLits.nd rfl (Or.inl rfl) (pe_callTy0 cr_set0K (by rfl) B.set PyProof.Rows.boot_set))
      (pss_cons (ps_for PassesOwn.never rfl (pi_seq (pv 1)) (pg_name (i := 4) scLits.nd rfl (Or.inl rfl))
        (pss_cons (ps_if (pt_not (pt_val (pe_call GT hr rfl NT.g NT.F.kp NT.b .nil pass0 (pa_cons (pv 4) (pa_cons pe_int pa_nil))) (fun _ => rfl))) (pss_one (ps_ret pe_non)) pss_nil)
        (pss_cons (ps_asg (pv 4) (pg_seq rfl (pgs_cons (pg_name (i := 5) scLits.nd rfl (Or.inl rfl)) (pgs_cons (pg_name (i := 6) scLits.nd rfl (Or.inl rfl)) pgs_nil))))
        (pss_cons (ps_if (pw_or (pt_not (pt_val (pe_callB call_isi (by rfl) B.isi PyProof.Rows.boot_isinstance (pa_cons (pv 5) (pa_cons (gt B.str PyProof.Rows.boot_str) pa_nil))) (fun _ => rfl)))
            (pw_or (pt_cmp (pc_dnotin hu (pv 5) (pv 0)) (by rfl))
            (pw_or1 (pt_not (pt_val (pe_callB call_isi (by rfl) B.isi PyProof.Rows.boot_isinstance (pa_cons (pv 6) (pa_cons (gt B.bool PyProof.Rows.boot_bool) pa_nil))) (fun _ => rfl)))))).pt (pss_one (ps_ret pe_non)) pss_nil)
        (pss_cons (ps_if (pt_cmpR or_sinK (pv 5) (pv 3) (by rfl)) (pss_one (ps_ret pe_non)) pss_nil)
        (pss_cons (ps_expr (pe_saddK (pv 3) (pa_cons (pv 5) pa_nil)))
        (pss_one (ps_expr (pe_bm PySem.F.plainAttrs_list PySem.F.slot_list_append PySem.F.type_list_append mt_append (pv 2) (pa_cons (pe_tup (pa_cons (pv 5) (pa_cons (pv 6) pa_nil))) pa_nil))))))))))
      (pss_one (ps_ret (pv 2)))))), ?_⟩
    cases hi : d.items? with
    | none =>
      refine ⟨_, rfl, S, d, v, rfl, hd, fun H1 s1 => ⟨_, rfl, ?_⟩⟩
      have e1 : d.isList = false := by unfold D.isList; rw [hi]; rfl
      rw [e1]
      refine iteT ?_
      exact k0 _ s1 (by unfold litsOf; rw [hi])
    | some ds =>
      refine ⟨_, rfl, S, d, v, rfl, hd, fun H1 s1 => ⟨_, rfl, ?_⟩⟩
      have e1 : d.isList = true := by unfold D.isList; rw [hi]; rfl
      have e2 : litsOf names d = optFold (litS names) ds [] := by unfold litsOf; rw [hi]
      have hsm : ds.length ≤ 1000 := by unfold D.small at sm; rw [hi] at sm; exact sm
      rw [e1]
      refine iteF ?_
      refine ⟨Nat.zero_le _, fun fa hfa => ?_⟩
      refine ⟨rfl, fun se hse => ?_⟩
      have hse1 : H1 se = none := by
        have : se ≠ fa := fun q => by rw [q, upd_same] at hse; cases hse
        rw [upd_ne this] at hse
        exact hse
      have nfs : fa ≠ se := fun q => by rw [← q, upd_same] at hse; cases hse
      obtain ⟨a, us, rfl, hq, rr⟩ := (hd.same s1).seq (K := K) hi
      refine ⟨_, rfl, a, rfl, for_seq (xs := us) (Hb := H1) hq (fun i σ H' => ∃ (acc : List (Str × Bool)) (o4 o5 o6 : Option V) (ts : List V), optFold (litS names) (ds.take i) [] = some acc ∧
        σ = [some (.ref pl), some (.ref a), some (.ref fa), some (.ref se), o4, o5, o6] ∧ Same H1 H' ∧ H' fa = some (.lst ts) ∧ Reps (fun _ => False) H' (acc.map litD) ts ∧
        H' se = some (SetK P w se (inS (acc.map Prod.fst)) acc.length) ∧ acc.length ≤ i)
        ⟨[], none, none, none, [], rfl, rfl, (Same.new hfa).trans (Same.new hse), by rw [upd_ne nfs]; exact upd_same, rfl, (by show upd _ se _ se = some (SetK P w se (inS []) 0); rw [inS_nil]; exact upd_same), Nat.le_refl _⟩ (fun i σ H' _ ⟨_, _, _, _, _, _, _, h, _⟩ => h) ?_ ?_⟩
      · rintro i x σ H' hx ⟨acc, o4, o5, o6, ts, ho, rfl, sm', hf, ht, hs', hl⟩
        have hsl : i < us.length := (List.getElem?_eq_some_iff.mp hx).1
        obtain ⟨dx, hdx, hrx⟩ := (rr.same sm').get hx
        refine ⟨_, rfl, S, dx, x, 2, rfl, hrx, fun H2 s3 => ⟨_, rfl, ?_⟩⟩
        have none_out : litS names acc dx = none → Q .non H2 := fun hn => k0 _ (s1.trans (sm'.trans s3)) (by rw [e2]; exact optFold_none ho hdx hn)
        cases e5 : dx.isOf 2 with
        | false =>
          refine iteT ?_
          refine none_out ?_
          unfold litS lit1
          unfold D.isOf at e5
          cases e6 : dx.items? with
          | none => rfl
          | some xs =>
            rw [e6] at e5
            match xs, e5 with
            | [], _ => rfl
            | [_], _ => rfl
            | [_, _], e5 => cases e5
            | _ :: _ :: _ :: _, _ => rfl
        | true =>
          refine iteF ?_
          obtain ⟨p, q, e6⟩ : ∃ p q, dx.items? = some [p, q] := by
            unfold D.isOf at e5
            cases e6 : dx.items? with
            | none => rw [e6] at e5; cases e5
            | some xs =>
              rw [e6] at e5
              match xs, e5 with
              | [p, q], _ => exact ⟨p, q, rfl⟩
              | [], e5 => cases e5
              | [_], e5 => cases e5
              | _ :: _ :: _ :: _, e5 => simp at e5
          have l1 : lit1 names dx = lit2 names p q := by unfold lit1; rw [e6]
          obtain ⟨b, vs2, rfl, hq2, r2⟩ := (hrx.same s3).seq (K := K) e6
          obtain ⟨vp, r3, rfl, hp, vq, r4, rfl, hqq, rfl⟩ := r2
          refine ⟨_, rfl, b, _, rfl, hq2, rfl, ?_⟩
          refine ⟨vp, _, rfl, ?_⟩
          refine ⟨vq, _, rfl, rfl, ?_⟩
          refine ⟨_, rfl, vp, .ty "str", _, _, _, rfl, .ty "str", hp.ty, kit_str p, _, rfl, ?_⟩
          cases e7 : p.isStr with
          | false =>
            refine iteT (iteT ?_)
            refine none_out ?_
            unfold litS
            rw [l1]
            cases p <;> first | rfl | cases e7
          | true =>
            obtain ⟨m, rfl⟩ : ∃ m, p = .str m := by cases p <;> first | exact ⟨_, rfl⟩ | cases e7
            cases (show vp = .str m from hp)
            refine iteF ?_
            refine ⟨_, rfl, _, rfl, pl, _, rfl, DGet.k (k := Sum.inr m) (s3 _ _ (sm' _ _ (s1 _ _ hpl))), _, rfl, ?_⟩
            rw [hkv]
            by_cases e8 : m ∈ names
            · rw [decide_eq_true e8]
              refine iteF ?_
              refine ⟨_, rfl, vq, .ty "bool", _, _, _, rfl, .ty "bool", hqq.ty, kit_bool q, _, rfl, ?_⟩
              cases e9 : q.isBool with
              | false =>
                refine iteT ?_
                refine none_out ?_
                unfold litS
                rw [l1]
                cases q <;> first | rfl | cases e9
              | true =>
                obtain ⟨t, rfl⟩ : ∃ t, q = .bl t := by cases q <;> first | exact ⟨_, rfl⟩ | cases e9
                cases (show vq = .bl t from hqq)
                refine iteF ?_
                have l2 : litS names acc dx = if m ∈ acc.map Prod.fst then none else some (acc ++ [(m, t)]) := by
                  unfold litS
                  rw [l1]
                  show (match (if m ∈ names then some (m, t) else none) with | none => none | some l => _) = _
                  rw [if_pos e8]
                refine ⟨_, rfl, _, rfl, Sum.inr m, se, _, _, rfl, rfl, s3 _ _ hs', _, rfl, ?_⟩
                by_cases e10 : m ∈ acc.map Prod.fst
                · refine ite2 (fun _ => none_out (by rw [l2, if_pos e10])) (fun z => absurd ?_ z)
                  exact decide_eq_true e10
                · refine ite2 (fun z => absurd (of_decide_eq_true z) e10) (fun _ => ?_)
                  have hs3 := s3 _ _ hs'
                  have hf3 := s3 _ _ hf
                  have e11 : inS (acc.map Prod.fst) (Sum.inr m) = false := decide_eq_false e10
                  refine ⟨_, rfl, ⟨se, _, _, rfl, hs3⟩, _, rfl, se, Sum.inr m, _, _, rfl, rfl, hs3, ?_, ?_⟩
                  · have : i < ds.length := (List.getElem?_eq_some_iff.mp hdx).1
                    unfold scanBound
                    omega
                  rw [e11, inS_add]
                  have hf4 : ∀ o, upd H2 se o fa = some (.lst ts) := fun o => by rw [upd_ne nfs]; exact hf3
                  refine ⟨_, rfl, .inl ⟨rfl, _, SqL.of (hf4 _)⟩, _, rfl, _, rfl, (by show 2 ≤ sizeLine; decide), fun tp htp => ?_⟩
                  have ntf : fa ≠ tp := fun z => by rw [← z, hf4] at htp; cases htp
                  have nts : se ≠ tp := fun z => by rw [← z, upd_same] at htp; cases htp
                  have lts : ts.length = acc.length := by rw [ht.length, List.length_map]
                  refine ⟨fa, _, _, rfl, rfl, (by rw [upd_ne ntf]; exact hf4 _), ?_, ?_⟩
                  · have : i < ds.length := (List.getElem?_eq_some_iff.mp hdx).1
                    exact Nat.lt_of_le_of_lt (show ts.length ≤ 1000 by omega) (by decide)
                  have g1 : Same H1 (upd (upd (upd H2 se (SetK P w se (inS (acc.map Prod.fst ++ [m])) (acc.length + 1))) tp (.tup [.str m, .bl t])) fa (.lst (ts ++ [.ref tp]))) := by
                    refine Same.at (Same.trans ?_ (Same.new htp)) hfa
                    exact Same.at (sm'.trans s3) hse1
                  refine ⟨acc ++ [(m, t)], _, _, _, ts ++ [.ref tp], ?_, rfl, g1, upd_same, ?_, ?_, ?_⟩
                  · rw [optFold_step ho hdx, l2, if_neg e10]
                  · rw [List.map_append]
                    refine Reps.append ?_ (Reps.one ⟨tp, [.str m, .bl t], rfl, ?_, ⟨_, _, rfl, rfl, ⟨_, _, rfl, rfl, rfl⟩⟩⟩)
                    · refine Reps.mono (fun _ z => z) ?_ ht
                      refine Stay.trans (stay_of s3) (Stay.trans (stay_upd hs3 nd_ext) (Stay.trans (stay_of (Same.new htp)) (stay_upd (u := .lst ts) (by rw [upd_ne ntf]; exact hf4 _) (nd_lst (fun z => z)))))
                    · rw [upd_ne ntf.symm]
                      exact upd_same
                  · rw [upd_ne nfs.symm, upd_ne nts, upd_same, List.map_append, List.length_append]
                    rfl
                  · rw [List.length_append]
                    show acc.length + 1 ≤ i + 1
                    omega
            · rw [decide_eq_false e8]
              refine iteT (iteT ?_)
              refine none_out ?_
              unfold litS
              rw [l1, lit2_out e8]
      · rintro σ H' ⟨acc, o4, o5, o6, ts, ho, rfl, sm', hf, ht, hs', hl⟩
        refine ⟨_, rfl, ?_⟩
        have e3 : us.length = ds.length := rr.length
        rw [e3, List.take_length] at ho
        refine k1 _ _ acc (s1.trans sm') (by rw [e2]; exact ho) ⟨fa, ts, rfl, s1.free hfa, hf, ?_⟩
        exact Reps.mono (fun _ z => z.elim) (fun _ _ e _ => e) ht
theorem ok_lits (B : Bt mg) (N : Dn K mg "literal_list" sLits ["places", "thing"]) (NL : Dn K mg "is_list" sIsList ["thing"]) (NT : Dn K mg "is_tuple_of" sIsTupleOf ["thing", "length"]) : FnOk P w K mg base CX0 3 N.f N.fd ["places", "thing"] spLits :=
  ⟨fun vs H Q E h => by
    obtain ⟨S, d, v, pl, names, rfl, _⟩ := h
    rfl, fun A outer s H args us vs Q E hr he hb hv hs => (ok_litsG B N NL NT).run A outer s H args us vs Q E hr he hb hv (by
      obtain ⟨S, d, v, pl, names, rfl, hpl, r⟩ := hs
      exact ⟨S, d, v, pl, _, names, rfl, hpl, placesK_get names, r⟩)⟩
end
end Q1
set_option Elab.async false
set_option linter.all false
set_option maxRecDepth 100000
set_option maxHeartbeats 4000000
namespace PySem
theorem q1_meets_enumerate {v : Value} {o : Obj} {H : Heap → Prop} (B : Begins v o H) :
    Meets (Builtin.«enumerate.__new__» ⟨[.type "enumerate", v], []⟩) (fun _ R s => H s.heap ∧
      R (.ok (.ret (.ref (s.heap.push o).objs.size))) { s with heap := (s.heap.push o).push { cls := .type "enumerate", data := .fields #[.none, .bool false, .ref s.heap.objs.size, rawInt 0, .none, .none] } }) :=
  .of_wp fun prog w A R s h => by
    obtain ⟨hp, g, d, tk, os⟩ := s; obtain ⟨h1, h⟩ := h
    have hsub := sub_enumerate
    have q1 : ∀ {A' : Around} {E : Value → Shared → Prop} {Q : Value → Shared → Prop}, Q (.ref hp.objs.size) ⟨hp.push o, g, d, tk, os⟩ → wpAny (model prog w) A' (pyIter v) Q E ⟨hp, g, d, tk, os⟩ :=
      fun q => B.iter prog w _ _ ⟨hp, g, d, tk, os⟩ _ h1 q
    wp_walk using q1
    refine wpAny_stack_any fun st => wpAny_pure ?_
    split
    · rename_i c _ _ _ _ _
      cases (c == Value.type "enumerate")
      · wp_walk using q1
        exact ⟨_, rfl, h⟩
      · wp_walk using q1
        exact ⟨_, rfl, h⟩
    · wp_walk using q1
      exact ⟨_, rfl, h⟩
theorem q1_call_enumerate {prog : Program} {w : World} {A : Around} {E : Value → Shared → Prop} {s : Shared} {v : Value} {o : Obj} {H : Heap → Prop} {Q : Value → Shared → Prop} (B : Begins v o H) (h1 : H s.heap)
    (h : ∀ h', IsEnum h' (s.heap.objs.size + 1) s.heap.objs.size 0 .none → h'.get? s.heap.objs.size = some o → h'.objs.size = s.heap.objs.size + 2 →
      (∀ b o, s.heap.get? b = some o → h'.get? b = some o) → Q (.ref (s.heap.objs.size + 1)) { s with heap := h' }) :
    wpAny (model prog w) A (call (.type "enumerate") [v]) Q E s := by
  refine callType_new F.called_enumerate (by decide) (F.typeCall_enumerate_1 _) (F.newCall_enumerate_1 _) (fun obj => F.args_object_init_2 obj _) F.entry_enumerate_new
    (q1_meets_enumerate B) ⟨h1, ?_⟩
  have hz : (s.heap.push o).objs.size = s.heap.objs.size + 1 := Heap.size_push ..
  show _ ∧ _
  rw [hz]
  have he : IsEnum ((s.heap.push o).push { cls := .type "enumerate", data := .fields #[.none, .bool false, .ref s.heap.objs.size, rawInt 0, .none, .none] }) (s.heap.objs.size + 1) s.heap.objs.size 0 .none := by
    have := Heap.get?_push_size (s.heap.push o) (o := { cls := .type "enumerate", data := .fields #[.none, .bool false, .ref s.heap.objs.size, rawInt 0, .none, .none] }) rfl
    rw [hz] at this; exact this
  refine ⟨⟨_, he, rfl⟩, h _ he (Heap.get?_push_of_some _ (Heap.get?_push_size _ B.free)) (by rw [Heap.size_push, hz]) fun b o x => Heap.get?_push_of_some _ (Heap.get?_push_of_some _ x)⟩
end PySem
namespace L2
open PySem PySem.Spec PyProof.Rows
/-- the tuple at a, each item in a new pair -/
def IteT (K : PySem.W.Frag) (a : Addr) : It :=
  ⟨fun i H => ∃ (xs : List V) (x : V), SqT K H a xs ∧ xs[i]? = some x, fun i H v H' => ∃ T x, v = .ref T ∧ H T = none ∧ H' = upd H T (.tup [.int (i : Nat), x]) ∧ ∀ xs, SqT K H a xs → xs[i]? = some x, fun i H => ∃ xs : List V, SqT K H a xs ∧ xs.length = i⟩
theorem turn_enumT {P : Program} {w : World} {K : PySem.W.Frag} {elts : List Expr} {kk : Nat} {tpos : Pos} (a e it : Addr) (hai : a ≠ it) (hae : e ≠ a) :
    Turn P w K (.Tuple elts kk tpos) (IteT K a) [e, it] e (fun i h => (∃ old, IsEnum h e it ((i : Nat) : Int) old) ∧ h.IsTupleIter it a i ∧ e ≠ it) where
  mem := by simp
  obj := fun i h st b hb => by
    obtain ⟨⟨old, he⟩, ⟨o, ho, hc, hd⟩, _⟩ := st
    have e' : b = e ∨ b = it := by simpa using hb
    rcases e' with z | z
    · rw [z]; exact ⟨_, he, fun v q => nomatch q⟩
    · rw [z]; exact ⟨o, ho, fun v q => by rw [hd] at q; cases q⟩
  keep := fun i h h' st k => let ⟨⟨old, he⟩, hi, hne⟩ := st; ⟨⟨old, k e (by simp) _ he⟩, hi.at fun o q => k it (by simp) o q, hne⟩
  item := by
    intro X hP hw hK hc i pins s σ H E I hf st hg
    subst hP hw hK
    obtain ⟨⟨old, he⟩, hit, hne⟩ := st
    obtain ⟨xs, x, hq, hx⟩ := hg
    obtain ⟨its, rv, p, hz⟩ := I.tuple hq
    obtain ⟨u, hu, ru⟩ := rv.get hx
    have hel : e < s.heap.objs.size := Heap.lt_size he
    have hil : it < s.heap.objs.size := by obtain ⟨_, q, _⟩ := hit; exact Heap.lt_size q
    have hsz0 : i < its.toArray.size := by
      have := (List.getElem?_eq_some_iff.mp hu).1
      simpa using this
    refine wpAny_pyNext_enum_itemD (Draws.tuple (A := X.A.in1) (show X.A.in1.handled = none from I.ok.hd hc) it a hai its.toArray) he ⟨hit, p⟩ hsz0 hne (by simp [hne, hae]) fun x' h' tk hx' ho hit' hT hsz hk => ?_
    have ex : x' = u := by
      have : its.toArray[i]? = some u := by simpa using hu
      rw [this] at hx'
      exact (Option.some.inj hx').symm
    subst ex
    refine ⟨_, rfl, wpAny_letOwnedTupleGo_enum (s := { s with heap := h', toks := tk + 1 }) ho fun h'' he' sb => ?_⟩
    have hT2 : h''.get? s.heap.objs.size = some { cls := .type "tuple", data := .seq #[.int i tk, x'] } := (sb.2 _ (Nat.ne_of_gt hel)).trans hT
    have new : ObjOk X.prog X.w (upd H s.heap.objs.size (.tup [.int (i : Nat), x])) h'' s.heap.objs.size (.tup [.int (i : Nat), x]) :=
      ⟨by show 2 ≤ sizeLine; decide, [.int i tk, x'], .cons ⟨_, rfl⟩ (.cons ru .nil), ⟨_, hT2, rfl, _, rfl⟩⟩
    have I1 : Inv X pins σ (upd H s.heap.objs.size (.tup [.int (i : Nat), x])) { s with heap := h'', toks := tk + 1 } :=
      I.turnedNew (ch := [e, it]) (fun b ob hb q => (sb.2 b (fun z => hb (by simp [z]))).trans (hk b ob (fun z => hb (by simp [z])) (fun z => hb (by simp [z])) q)) hf (Nat.le_refl _) new
    refine ⟨.ref s.heap.objs.size, _, I1, rfl, ⟨_, x, rfl, I.hok.fresh (Nat.le_refl _), rfl, fun ys hy => by rw [I.tuple_inj hy hq]; exact hx⟩, ⟨⟨x', ?_⟩, hit'.1.at fun o q => (sb.2 it (Ne.symm hne)).trans q, hne⟩, fun b hb => ?_⟩
    · have e1 : ((i + 1 : Nat) : Int) = (i : Int) + 1 := by omega
      rw [e1]; exact he'
    · have hb' : b < s.heap.objs.size := by
        have e' : b = e ∨ b = it := by simpa using hb
        rcases e' with z | z
        · rw [z]; exact hel
        · rw [z]; exact hil
      rw [upd_ne (Nat.ne_of_lt hb')]
      exact (hf b hb).1
  done := by
    intro X hP hw hK hc i pins s σ H E I hf st hg
    subst hP hw hK
    obtain ⟨⟨old, he⟩, hit, hne⟩ := st
    obtain ⟨xs, hq, hx⟩ := hg
    obtain ⟨its, rv, p, hz⟩ := I.tuple hq
    obtain ⟨f0, f1, f2, f3, f4, f5⟩ := hf it (by simp)
    have hl := rv.length
    have e0 : i = its.toArray.size := by simp; omega
    subst e0
    exact wpAny_pyNext_enum_endD (Draws.tuple (A := X.A.in1) (show X.A.in1.handled = none from I.ok.hd hc) it a hai its.toArray) he ⟨hit, p⟩ fun h' eb => ⟨rfl, I.turned (t' := s.toks) (fun b o hb q => eb b o hb q) f0 f1 f3 f4 f5⟩
  self := fun A i s Q E st h => let ⟨⟨_, he⟩, _⟩ := st; wpAny_pyIter_enum he h
def iEnumA (K : PySem.W.Frag) (ta : TA) : TI := fun σ H R => ta σ H fun vs H1 => ∃ a xs, vs = [.ref a] ∧ ((SqL K H1 a xs ∧ R (Ite K a) H1) ∨ (SqT K H1 a xs ∧ R (IteT K a) H1))
theorem pi_enumA {X : Cx} {e : Expr} {ta : TA} {p pos tpos : Pos} {elts : List Expr} {kk : Nat} (hg : Gl X "enumerate") (hm : X.mg "enumerate" = none) (ha : PA X [e] ta) (hs : starEach [e] X.env = [(false, eval e X.env)] := by rfl) :
    PI X (.Tuple elts kk tpos) (.Call (.Name "enumerate" p) [e] [] pos) (iEnumA X.K ta) := by
  refine ⟨fun pins s σ H R I h => ?_⟩
  refine Call_ (ld_blt I hg hm boot_enumerate (PyProof.Rows.callWith_type1 (thn (ha.run pos pins s σ H _ I h) fun us s1 ⟨vs, H1, I1, r1, q1⟩ => ?_) hs rfl))
  obtain ⟨a, xs, ex, hq⟩ := q1
  subst ex
  cases r1 with
  | cons r rr =>
    cases rr
    cases r
    have fin : ∀ b, b = s1.heap.objs.size + 1 ∨ b = s1.heap.objs.size → s1.heap.objs.size ≤ b := fun b z => by
      rcases z with z | z
      · rw [z]; exact Nat.le_add_right _ _
      · rw [z]; exact Nat.le_refl _
    rcases hq with ⟨hq, q⟩ | ⟨hq, q⟩
    · obtain ⟨its, rv, p', hz⟩ := I1.list hq
      refine call_enumerate_list p'.isList fun h' he hit hsz hk => wpAny_pyIter_enum he ?_
      have I2 : Inv X pins σ H1 { s1 with heap := h' } := I1.kept (t' := s1.toks) hk
      refine ⟨s1.heap.objs.size + 1, [s1.heap.objs.size + 1, s1.heap.objs.size], _, _, H1, rfl, I2, turn_enum a (s1.heap.objs.size + 1) s1.heap.objs.size, ⟨⟨.none, he⟩, hit, Nat.succ_ne_self _⟩, fun b hb => ?_, q⟩
      have e' : b = s1.heap.objs.size + 1 ∨ b = s1.heap.objs.size := by simpa using hb
      have hle := fin b e'
      exact I1.fpOk hle (I1.hok.fresh hle)
    · obtain ⟨its, rv, p', hz⟩ := I1.tuple hq
      have hal : a < s1.heap.objs.size := by
        obtain ⟨o, ho, _⟩ := p'
        exact Heap.lt_size ho
      refine q1_call_enumerate (begins_tuple a its.toArray) p' fun h' he hit hsz hk => wpAny_pyIter_enum he ?_
      have I2 : Inv X pins σ H1 { s1 with heap := h' } := I1.kept (t' := s1.toks) hk
      refine ⟨s1.heap.objs.size + 1, [s1.heap.objs.size + 1, s1.heap.objs.size], _, _, H1, rfl, I2, turn_enumT a (s1.heap.objs.size + 1) s1.heap.objs.size (Nat.ne_of_lt hal) (Nat.ne_of_gt (Nat.lt_succ_of_lt hal)), ⟨⟨.none, he⟩, ⟨_, hit, rfl, rfl⟩, Nat.succ_ne_self _⟩, fun b hb => ?_, q⟩
      have e' : b = s1.heap.objs.size + 1 ∨ b = s1.heap.objs.size := by simpa using hb
      have hle := fin b e'
      exact I1.fpOk hle (I1.hok.fresh hle)
theorem walk_enumT {K : PySem.W.Frag} {a : Addr} {xs : List V} : Walk (IteT K a) xs.length (fun H => SqT K H a xs) (YPair (fun i => some (.int (i : Nat))) (fun i => xs[i]?)) := by
  refine ⟨fun i _ hi q => ⟨xs, xs[i], q, by simp [hi]⟩, fun _ q => ⟨xs, q, rfl⟩, fun i H v H' _ q y => ?_⟩
  obtain ⟨T, x, h1, h2, h3, h4⟩ := y
  exact ⟨T, .int (i : Nat), x, h1, h2, h3, rfl, h4 xs q⟩
end L2
set_option Elab.async false
set_option linter.all false
set_option maxRecDepth 100000
set_option maxHeartbeats 4000000
namespace Q1
open PySem L2 LamX
/-! ### the law's draws -/
/-- the law's stream of draws: its counter at most n -/
def Strm (H : Hp) (s : Addr) (n : Nat) : Prop := ∃ c m k : Int, H s = some (.lst [.int c, .int m, .int k]) ∧ 0 ≤ c ∧ 0 ≤ m ∧ m < 4294967296 ∧ 0 ≤ k ∧ k ≤ (n : Int)
theorem Strm.mono {H : Hp} {s : Addr} {n m : Nat} (h : Strm H s n) (hn : n ≤ m) : Strm H s m := by
  obtain ⟨c, d, k, h1, h2, h3, h4, h5, h6⟩ := h
  exact ⟨c, d, k, h1, h2, h3, h4, h5, by omega⟩
/-- all but the stream stays -/
def SameS (s : Addr) (H H' : Hp) : Prop := ∀ a o, a ≠ s → H a = some o → H' a = some o
theorem SameS.refl {s : Addr} (H : Hp) : SameS s H H := fun _ _ _ e => e
theorem SameS.of {s : Addr} {H H' : Hp} (h : Same H H') : SameS s H H' := fun a o _ e => h a o e
theorem SameS.trans {s : Addr} {H H1 H2 : Hp} (a : SameS s H H1) (b : SameS s H1 H2) : SameS s H H2 := fun x o n e => b x o n (a x o n e)
theorem SameS.upd {s : Addr} {H H1 : Hp} {o : HO} (h : SameS s H H1) : SameS s H (upd H1 s o) := fun a u n e => by
  rw [upd_ne n]
  exact h a u n e
theorem SameS.at {s D : Addr} {H H1 : Hp} {o : HO} (h : SameS s H H1) (hD : H D = none) : SameS s H (L2.upd H1 D o) := fun a u n e => by
  rw [upd_ne (ne_of_none e hD)]
  exact h a u n e
theorem SameS.new {s D : Addr} {H H1 : Hp} {o : HO} (h : SameS s H H1) (hD : H1 D = none) : SameS s H (L2.upd H1 D o) := fun a u n e => by
  have := h a u n e
  rw [upd_ne (ne_of_none this hD)]
  exact this
theorem SameS.none {s : Addr} {H H' : Hp} (h : SameS s H H') {a : Addr} (n : a ≠ s) (e : H' a = none) : H a = none := by
  cases q : H a with
  | none => rfl
  | some o => rw [h a o n q] at e; cases e
theorem SameS.stay {s : Addr} {S : Addr → Prop} {H H' : Hp} {u : List V} (h : SameS s H H') (hs : H s = some (.lst u)) (n : ¬ S s) : Stay S H H' := fun a o e nd => by
  by_cases q : a = s
  · subst q
    rw [hs] at e
    cases e
    rcases nd with ⟨_, _, k⟩ | ⟨_, k⟩ | k
    · exact absurd k n
    · cases k
    · cases k
  · exact h a o q e
theorem Strm.lst {H : Hp} {s : Addr} {n : Nat} (h : Strm H s n) : ∃ u, H s = some (.lst u) := by
  obtain ⟨c, m, k, h1, _⟩ := h
  exact ⟨_, h1⟩
theorem Strm.same {H H' : Hp} {s : Addr} {n : Nat} (h : Strm H s n) (e : Same H H') : Strm H' s n := by
  obtain ⟨c, m, k, h1, h2⟩ := h
  exact ⟨c, m, k, e _ _ h1, h2⟩
/-- most draws in all -/
def LIM : Nat := 1000000000
section
variable {P : Program} {w : World} {K : PySem.W.Frag} {mg : Str → Option Value} {base : Heap}
abbrev sDraw : Stmt := top 36
abbrev nDraw : List Str := ["well", "many", "digit", "spread"]
theorem scDraw : FnScope nDraw ["well", "many"] (defScope sDraw) := ⟨rfl, rfl, rfl, by decide +kernel, rfl, by decide +kernel, by decide +kernel⟩
def spDraw : Sp := fun vs H Q _ => ∃ (s : Addr) (n : Nat) (m : Nat), vs = [.ref s, .int (m : Nat)] ∧ Strm H s n ∧ n < LIM ∧ 0 < m ∧ m < 1000000 ∧ ∀ (u : List V) (d : Nat), d < m → Strm (upd H s (.lst u)) s (n + 1) → Q (.int (d : Nat)) (upd H s (.lst u))
def rInt1 : List V → Hp → VK → Prop := fun xs H Q => (∃ i, xs = [.int i] ∧ Q (.int i) H) ∨ ∃ k, xs = [.bl k] ∧ Q (.int (if k then 1 else 0)) H
theorem call_int1' {X : Cx} : CallR X (.type "int") rInt1 := call_int1
theorem ok_draw (B : Bt mg) (N : Dn K mg "_law_draw" sDraw ["well", "many"]) : FnOk P w K mg base CX0 1 N.f N.fd ["well", "many"] spDraw := by
  refine N.F.ok scDraw (fun vs H Q E h => ?_) (fun cdv A outer s H vs Q E hr h => ?_)
  · obtain ⟨s, n, m, rfl, _⟩ := h
    rfl
  · obtain ⟨a, n, m, rfl, hs, hn, hm0, hm, k⟩ := h
    refine ⟨_, pss_cons (ps_if (pt_cmp (pc_gt (pe_ix ix_list (pv 0) pe_int (fun _ _ => rfl)) pe_int) (by rfl)) 
        (pss_cons (ps_set (i := 2) scDraw.nd rfl (Or.inl rfl) (pe_op op_mod (pe_callTy call_int1' (by rfl) B.int PyProof.Rows.boot_int (pa_cons (pe_ix ix_list (pv 0) pe_int (fun _ _ => rfl)) pa_nil)) (pv 1)))
          (pss_cons (ps_asg (pe_op op_fdiv (pe_ix ix_list (pv 0) pe_int (fun _ _ => rfl)) (pv 1)) (pg_sub (pv 0) pe_int set_list)) (pss_one (ps_ret (pv 2))))) pss_nil)
      (pss_cons (ps_asg (pe_op op_add (pe_ix ix_list (pv 0) pe_int (fun _ _ => rfl)) pe_int) (pg_sub (pv 0) pe_int set_list))
      (pss_cons (ps_set (i := 3) scDraw.nd rfl (Or.inl rfl) (pe_op op_mod (pe_op op_pow (pe_callTy call_int1' (by rfl) B.int PyProof.Rows.boot_int (pa_cons (pe_op op_add (pe_op op_add (pe_ix ix_list (pv 0) pe_int (fun _ _ => rfl)) (pe_op op_mul pe_int (pe_ix ix_list (pv 0) pe_int (fun _ _ => rfl)))) pe_int) pa_nil)) pe_int) pe_int))
      (pss_one (ps_ret (pe_op op_mod (pe_op op_fdiv (pe_op op_mod (pe_callTy call_int1' (by rfl) B.int PyProof.Rows.boot_int (pa_cons (pe_op op_mul (pe_op op_add (pv 3) (pe_op op_mul pe_int (pe_ix ix_list (pv 0) pe_int (fun _ _ => rfl)))) pe_int) pa_nil)) pe_int) pe_int) (pv 1)))))), ?_⟩
    obtain ⟨c, x, y, hl, hc, hx0, hx1, hy0, hy1⟩ := hs
    have g0 : atI [V.int c, .int x, .int y] 0 = some (.int c) := atI_nat (j := 0) rfl
    have g1 : atI [V.int c, .int x, .int y] 1 = some (.int x) := atI_nat (j := 1) rfl
    have g2 : atI [V.int c, .int x, .int y] 2 = some (.int y) := atI_nat (j := 2) rfl
    refine ⟨_, rfl, a, _, 0, .int c, rfl, rfl, SqL.of hl, g0, c, 0, rfl, rfl, ⟨_, rfl, ?_⟩⟩
    have hm1 : (0 : Int) < ((m : Nat) : Int) := by omega
    refine ite2 (fun hcc => ?_) (fun hcc => ?_)
    · have hc1 : 0 < c := of_decide_eq_true hcc
      refine ⟨_, rfl, a, _, 0, .int c, rfl, rfl, SqL.of hl, g0, .inl ⟨c, rfl, _, rfl, c, m, rfl, rfl, hm1, ?_⟩⟩
      refine ⟨_, rfl, a, _, 0, .int c, rfl, rfl, SqL.of hl, g0, _, rfl, c, m, rfl, rfl, ⟨hm1, by omega⟩, _, rfl, a, _, 0, 0, rfl, rfl, hl, rfl, _, rfl, ?_⟩
      have hd : 0 ≤ c % (m : Int) ∧ c % (m : Int) < (m : Int) := ⟨Int.emod_nonneg _ (by omega), Int.emod_lt_of_pos _ hm1⟩
      have k' := k [.int (c / m), .int x, .int y] (c % m).toNat (by omega) ⟨c / m, x, y, upd_same, Int.ediv_nonneg hc (by omega), hx0, hx1, hy0, by omega⟩
      rw [Int.toNat_of_nonneg hd.1] at k'
      exact k'
    · refine ⟨_, rfl, a, _, 2, .int y, rfl, rfl, SqL.of hl, g2, y, 1, rfl, rfl, _, rfl, a, _, 2, 2, rfl, rfl, hl, rfl, ?_⟩
      have hl2 : upd H a (.lst [V.int c, .int x, .int (y + 1)]) a = some (.lst [V.int c, .int x, .int (y + 1)]) := upd_same
      have f1 : atI [V.int c, .int x, .int (y + 1)] 1 = some (.int x) := atI_nat (j := 1) rfl
      have f2 : atI [V.int c, .int x, .int (y + 1)] 2 = some (.int (y + 1)) := atI_nat (j := 2) rfl
      have hy2 : y + 1 < 4294967296 := by unfold LIM at hn; omega
      refine ⟨_, rfl, a, _, 1, .int x, rfl, rfl, SqL.of hl2, f1, _, rfl, a, _, 2, .int (y + 1), rfl, rfl, SqL.of hl2, f2, 8191, y + 1, rfl, rfl, .inl ⟨by decide, by decide⟩, x, _, rfl, rfl, _, 65537, rfl, rfl, .inl ⟨_, rfl, ?_⟩⟩
      generalize hz : x + 8191 * (y + 1) + 65537 = z
      refine ⟨z, 5, rfl, rfl, ⟨by decide, by decide, by omega⟩, _, 2147483647, rfl, rfl, (show (0 : Int) < 2147483647 by decide), ?_⟩
      refine ⟨_, rfl, _, rfl, a, _, 2, .int (y + 1), rfl, rfl, SqL.of hl2, f2, 7, y + 1, rfl, rfl, .inl ⟨by decide, by decide⟩, _, 7 * (y + 1), rfl, rfl, _, 48271, rfl, rfl, .inr ⟨by decide, by decide⟩, .inl ⟨_, rfl, _, 2147483629, rfl, rfl, (show (0 : Int) < 2147483629 by decide), _, 9, rfl, rfl, ⟨by decide, by decide⟩, _, rfl, _, m, rfl, rfl, hm1, ?_⟩⟩
      obtain ⟨e, he⟩ : ∃ e, (z ^ (5 : Int).toNat % 2147483647 + 7 * (y + 1)) * 48271 % 2147483629 / 9 = e := ⟨_, rfl⟩
      have hd : 0 ≤ e % (m : Int) ∧ e % (m : Int) < (m : Int) := ⟨Int.emod_nonneg _ (by omega), Int.emod_lt_of_pos _ hm1⟩
      have k' := k [.int c, .int x, .int (y + 1)] (e % m).toNat (by omega) ⟨c, x, y + 1, upd_same, hc, hx0, hx1, by omega, by omega⟩
      rw [Int.toNat_of_nonneg hd.1, ← he] at k'
      exact k'
end
end Q1
set_option Elab.async false
set_option linter.all false
set_option maxRecDepth 100000
set_option maxHeartbeats 4000000
namespace Q1
open PySem L2 LamX
/-! ### data as the library's data; == -/
mutual
def D.py : D → PyData
  | .non => .none
  | .bl b => .bool b
  | .int i => .int i
  | .str x => .str x
  | .lst xs => .list (pys xs)
  | .tup xs => .tuple (pys xs)
  | .dic => .dict []
def pys : List D → List PyData
  | [] => []
  | x :: xs => x.py :: pys xs
end
mutual
/-- data that == goes through, of so many storeys at most -/
def D.ok : Nat → D → Prop
  | _, .str x => PyData.strOk x = true
  | 0, .lst _ => False
  | 0, .tup _ => False
  | n + 1, .lst xs => oks n xs
  | n + 1, .tup xs => oks n xs
  | _, .dic => False
  | _, .non => True
  | _, .bl _ => True
  | _, .int _ => True
def oks : Nat → List D → Prop
  | _, [] => True
  | n, x :: xs => x.ok n ∧ oks n xs
end
mutual
theorem Rep.dp {S : Addr → Prop} {K : PySem.W.Frag} {H : Hp} : ∀ {n : Nat} {d : D} {v : V}, Rep S H d v → d.ok n → Dp K H v d.py
  | _, .non, _, h, _ => by cases h; exact .non
  | _, .bl _, _, h, _ => by cases h; exact .bl _
  | _, .int _, _, h, _ => by cases h; exact .int _
  | _, .str _, _, h, _ => by cases h; exact .str _
  | _, .dic, _, _, k => by simp only [D.ok] at k
  | 0, .lst _, _, _, k => k.elim
  | 0, .tup _, _, _, k => k.elim
  | n + 1, .lst xs, _, h, k => by
    obtain ⟨a, vs, rfl, _, ha, r⟩ := h
    exact .lst (SqL.of ha) (Reps.dp r k)
  | n + 1, .tup xs, _, h, k => by
    obtain ⟨a, vs, rfl, ha, r⟩ := h
    exact .tup (SqT.of ha) (Reps.dp r k)
theorem Reps.dp {S : Addr → Prop} {K : PySem.W.Frag} {H : Hp} : ∀ {n : Nat} {ds : List D} {vs : List V}, Reps S H ds vs → oks n ds → DpAll K H vs (pys ds)
  | _, [], _, h, _ => by cases h; exact .nil
  | _, _ :: _, _, h, k => by
    obtain ⟨v, r, rfl, h1, h2⟩ := h
    exact .cons (Rep.dp h1 k.1) (Reps.dp h2 k.2)
end
theorem strOk_of {n : Nat} {x : Str} (k : (D.str x).ok n) : PyData.strOk x = true := by
  cases n <;> simpa only [D.ok] using k
mutual
theorem D.ok_lay : ∀ {n : Nat} {d : D}, d.ok n → d.py.canLay0 = true ∧ d.py.depth ≤ n
  | _, .non, _ => ⟨rfl, Nat.zero_le _⟩
  | _, .bl _, _ => ⟨rfl, Nat.zero_le _⟩
  | _, .int _, _ => ⟨rfl, Nat.zero_le _⟩
  | _, .str _, k => ⟨strOk_of k, Nat.zero_le _⟩
  | _, .dic, k => by simp only [D.ok] at k
  | 0, .lst _, k => k.elim
  | 0, .tup _, k => k.elim
  | n + 1, .lst xs, k => ⟨(oks_lay (n := n) (ds := xs) k).1, Nat.succ_le_succ (oks_lay (n := n) (ds := xs) k).2⟩
  | n + 1, .tup xs, k => ⟨(oks_lay (n := n) (ds := xs) k).1, Nat.succ_le_succ (oks_lay (n := n) (ds := xs) k).2⟩
theorem oks_lay : ∀ {n : Nat} {ds : List D}, oks n ds → PyData.canLayAll0 (pys ds) = true ∧ PyData.depthAll (pys ds) ≤ n
  | _, [], _ => ⟨rfl, Nat.zero_le _⟩
  | n, d :: ds, k => by
    obtain ⟨h1, h2⟩ := D.ok_lay k.1
    obtain ⟨h3, h4⟩ := oks_lay k.2
    exact ⟨by show (d.py.canLay0 && PyData.canLayAll0 (pys ds)) = true; rw [h1, h3]; rfl, Nat.max_le.mpr ⟨h2, h4⟩⟩
end
theorem D.ok_shaped {n : Nat} {d : D} (h : d.ok n) (hn : n ≤ 64) : SeqAt.shaped d.py = true := by
  obtain ⟨h1, h2⟩ := D.ok_lay h
  show (d.py.canLay0 && decide (d.py.depth ≤ 64)) = true
  rw [h1, decide_eq_true (Nat.le_trans h2 hn)]
  rfl
theorem oks_mem : ∀ {n : Nat} {ds : List D}, (∀ d ∈ ds, d.ok n) → oks n ds
  | _, [], _ => trivial
  | _, d :: _, h => ⟨h d List.mem_cons_self, oks_mem fun x hx => h x (List.mem_cons_of_mem _ hx)⟩
/-- Python's == -/
def D.eq (d e : D) : Bool := PyData.eqv d.py e.py

theorem eqD_of {K : PySem.W.Frag} {S S2 : Addr → Prop} {H : Hp} {d e : D} {v u : V} {Q : VK} (h : Rep S H d v) (k : Rep S2 H e u) (hd : d.ok 8) (he : e.ok 8) (q : Q (.bl (d.eq e)) H) : rEqD K v u H Q :=
  ⟨d.py, e.py, h.dp hd, k.dp he, D.ok_shaped hd (by decide), D.ok_shaped he (by decide), q⟩
end Q1
set_option Elab.async false
set_option linter.all false
set_option maxRecDepth 100000
set_option maxHeartbeats 4000000
namespace Q1
open PySem L2 LamX
def rListOf (K : PySem.W.Frag) : List V → Hp → VK → Prop := fun xs H Q => ∃ p ys, xs = [.ref p] ∧ (SqL K H p ys ∨ SqT K H p ys) ∧ ∀ l, H l = none → Q (.ref l) (upd H l (.lst ys))
theorem call_listOf {X : Cx} : CallR X (.type "list") (rListOf X.K) := call_list_of
mutual
/-- a datum's lists stand where the heap has something -/
theorem Rep.here {S : Addr → Prop} {H : Hp} : ∀ {d : D} {v : V}, Rep S H d v → Rep (fun a => S a ∧ H a ≠ none) H d v
  | .non, _, h => h
  | .bl _, _, h => h
  | .int _, _, h => h
  | .str _, _, h => h
  | .dic, _, h => h
  | .lst _, _, h => by
    obtain ⟨a, vs, rfl, sa, ha, r⟩ := h
    exact ⟨a, vs, rfl, ⟨sa, by rw [ha]; exact fun z => nomatch z⟩, ha, Reps.here r⟩
  | .tup _, _, h => by
    obtain ⟨a, vs, rfl, ha, r⟩ := h
    exact ⟨a, vs, rfl, ha, Reps.here r⟩
theorem Reps.here {S : Addr → Prop} {H : Hp} : ∀ {ds : List D} {vs : List V}, Reps S H ds vs → Reps (fun a => S a ∧ H a ≠ none) H ds vs
  | [], _, h => h
  | _ :: _, _, h => by
    obtain ⟨v, r, rfl, h1, h2⟩ := h
    exact ⟨v, r, rfl, Rep.here h1, Reps.here h2⟩
end
theorem Reps.mem {S : Addr → Prop} {H : Hp} {ds : List D} {vs : List V} {v : V} (h : Reps S H ds vs) (m : v ∈ vs) : ∃ d ∈ ds, Rep S H d v := by
  obtain ⟨i, hi⟩ := List.mem_iff_getElem?.mp m
  obtain ⟨d, h1, h2⟩ := h.get hi
  exact ⟨d, List.mem_of_getElem? h1, h2⟩
theorem oks_all : ∀ {n : Nat} {ds : List D}, oks n ds → ∀ d ∈ ds, d.ok n
  | _, [], _, d, h => by simp at h
  | _, x :: xs, k, d, h => by
    rcases List.mem_cons.mp h with rfl | h
    · exact k.1
    · exact oks_all k.2 d h
theorem reps_of_mem {S : Addr → Prop} {H : Hp} {p : D → Prop} : ∀ {vs : List V}, (∀ v ∈ vs, ∃ d, p d ∧ Rep S H d v) → ∃ ds, (∀ d ∈ ds, p d) ∧ Reps S H ds vs
  | [], _ => ⟨[], fun d h => by simp at h, rfl⟩
  | v :: vs, h => by
    obtain ⟨d, h1, h2⟩ := h v List.mem_cons_self
    obtain ⟨ds, h3, h4⟩ := reps_of_mem (vs := vs) fun x hx => h x (List.mem_cons_of_mem _ hx)
    refine ⟨d :: ds, fun x hx => ?_, v, vs, rfl, h2, h4⟩
    rcases List.mem_cons.mp hx with rfl | hx
    · exact h1
    · exact h3 x hx
theorem perm_erase {α : Type} {l : List α} {i : Nat} (h : i < l.length) : ([l[i]] ++ l.eraseIdx i).Perm l := by
  have e : l = l.take i ++ l[i] :: l.drop (i + 1) := by
    rw [← List.drop_eq_getElem_cons h, List.take_append_drop]
  rw [List.eraseIdx_eq_take_drop_succ]
  refine List.Perm.trans ?_ (List.Perm.of_eq e.symm)
  show (l[i] :: (l.take i ++ l.drop (i + 1))).Perm _
  exact List.perm_middle.symm
section
variable {P : Program} {w : World} {K : PySem.W.Frag} {mg : Str → Option Value} {base : Heap}
/-! ### _law_pick -/
abbrev sPick : Stmt := top 37
theorem scPick : FnScope ["well", "some"] ["well", "some"] (defScope sPick) := ⟨rfl, rfl, rfl, by decide +kernel, rfl, by decide +kernel, by decide +kernel⟩
def spPick : Sp := fun vs H Q _ => ∃ (s l : Addr) (n : Nat) (xs : List V), vs = [.ref s, .ref l] ∧ Strm H s n ∧ n < LIM ∧ H l = some (.lst xs) ∧ l ≠ s ∧ 0 < xs.length ∧ xs.length < 1000000 ∧
  ∀ (u : List V) (v : V), v ∈ xs → Strm (upd H s (.lst u)) s (n + 1) → Q v (upd H s (.lst u))
theorem ok_pick (B : Bt mg) (N : Dn K mg "_law_pick" sPick ["well", "some"]) (ND : Dn K mg "_law_draw" sDraw ["well", "many"]) : FnOk P w K mg base CX0 2 N.f N.fd ["well", "some"] spPick := by
  have GD : FnOk P w K mg base CX0 1 ND.f ND.fd ["well", "many"] spDraw := ok_draw B ND
  refine N.F.ok scPick (fun vs H Q E h => ?_) (fun cdv A outer s H vs Q E hr h => ?_)
  · obtain ⟨s, l, n, xs, rfl, _⟩ := h
    rfl
  · obtain ⟨a, l, n, xs, rfl, hs, hn, hl, hne, h0, h1, k⟩ := h
    refine ⟨_, pss_one (ps_ret (pe_ix ix_list (pv 1) (pe_call GD hr (by rfl) ND.g ND.F.kp ND.b .nil pass0 (pa_cons (pv 0) (pa_cons (pe_callB call_len_seq (by rfl) B.len boot_len (pa_cons (pv 1) pa_nil)) pa_nil))) (fun _ _ => rfl))), ?_⟩
    refine ⟨_, rfl, _, rfl, _, rfl, l, xs, rfl, .inl (SqL.of hl), a, n, xs.length, rfl, hs, hn, h0, h1, fun u d hd hs' => ?_⟩
    have hl2 : upd H a (.lst u) l = some (.lst xs) := by rw [upd_ne hne]; exact hl
    have hx : xs[d]? = some xs[d] := by simp [hd]
    exact ⟨l, xs, d, xs[d], rfl, rfl, SqL.of hl2, atI_nat hx, k u _ (List.getElem_mem hd) hs'⟩
/-! ### _law_mixed -/
abbrev sMixed : Stmt := top 38
abbrev nMixed : List Str := ["well", "some", "left", "k"]
theorem scMixed : FnScope nMixed ["well", "some"] (defScope sMixed) := ⟨rfl, rfl, rfl, by decide +kernel, rfl, by decide +kernel, by decide +kernel⟩
def rLenA (K : PySem.W.Frag) : List V → Hp → VK → Prop := fun xs H Q => ∃ p ys, xs = [.ref p] ∧ (SqL K H p ys ∨ SqT K H p ys) ∧ Q (.int ys.length) H
theorem call_lenA {X : Cx} : CallR X (.builtin "len") (rLenA X.K) := call_len_seq
def spMixed (K : PySem.W.Frag) : Sp := fun vs H Q _ => ∃ (S : Addr → Prop) (s l : Addr) (n : Nat) (xs : List V) (ds : List D), vs = [.ref s, .ref l] ∧ Strm H s n ∧ n + xs.length < LIM ∧ (SqL K H l xs ∨ SqT K H l xs) ∧ Reps S H ds xs ∧ ¬ S s ∧ oks 8 ds ∧ xs.length < 1000000 ∧
  ∀ H' r ys, SameS s H H' → ys.Perm xs → H r = none → H' r = some (.lst ys) → Strm H' s (n + xs.length) → Q (.ref r) H'
theorem ok_mixed (B : Bt mg) (N : Dn K mg "_law_mixed" sMixed ["well", "some"]) (ND : Dn K mg "_law_draw" sDraw ["well", "many"]) : FnOk P w K mg base CX0 2 N.f N.fd ["well", "some"] (spMixed K) := by
  have GD : FnOk P w K mg base CX0 1 ND.f ND.fd ["well", "many"] spDraw := ok_draw B ND
  refine N.F.ok scMixed (fun vs H Q E h => ?_) (fun cdv A outer s H vs Q E hr h => ?_)
  · obtain ⟨S, s, l, n, xs, ds, rfl, _⟩ := h
    rfl
  · obtain ⟨S, a, l, n, xs, ds, rfl, hs, hn, hl, hd, hS, hok, hsz, k⟩ := h
    refine ⟨_, pss_cons (ps_set (i := 2) scMixed.nd rfl (Or.inr rfl) (pe_callTy call_listOf (by rfl) B.lst PyProof.Rows.boot_list (pa_cons (pv 1) pa_nil)))
      (pss_one (ps_ret (pe_lc (own := [("k", 3)]) (g := gName 3) (tt := tYes) (te := tBM K "list" rPopAt (tVar 2) (tCons (tCall spDraw [] E0 (tCons (tVar 0) (tCons (tCB (rLenA K) (tCons (tVar 2) tNil)) tNil))) tNil)) rfl scMixed.nd (pi_range1 (by rfl) B.range (pa_cons (pe_callB call_lenA (by rfl) B.len boot_len (pa_cons (pv 2) pa_nil)) pa_nil)) (blkOk_by (own := [("k", 3)]) (N := nMixed) (sc := defScope sMixed) (by decide +kernel)) (fun _ _ _ _ _ => pg_name (i := 3) scMixed.nd rfl (Or.inl rfl)) (fun _ _ _ _ _ => pts_nil)
        (fun _ _ _ _ _ => pe_bm PySem.F.plainAttrs_list PySem.F.slot_list_pop PySem.F.type_list_pop mt_popAt (pv 2) (pa_cons (pe_call GD (hr.mono (by decide)) (by rfl) ND.g ND.F.kp ND.b .nil pass0 (pa_cons (pv 0) (pa_cons (pe_callB call_lenA (by rfl) B.len boot_len (pa_cons (pv 2) pa_nil)) pa_nil))) pa_nil))))), ?_⟩
    refine ⟨_, rfl, l, xs, rfl, hl, fun lr hlr => ?_⟩
    obtain ⟨u0, hu0⟩ := hs.lst
    have nra : lr ≠ a := fun z => by rw [z, hu0] at hlr; cases hlr
    have e1 : upd H lr (.lst xs) lr = some (.lst xs) := upd_same
    refine ⟨_, rfl, lr, xs, rfl, .inl (SqL.of e1), _, rfl, by omega, by omega, ?_⟩
    rw [Int.toNat_natCast]
    intro lf hlf
    have nfr : lr ≠ lf := ne_of_none e1 hlf
    have hlfH : H lf = none := by
      have z := hlf
      rw [upd_ne (Ne.symm nfr)] at z
      exact z
    have nfa : lf ≠ a := fun z => by rw [z, hu0] at hlfH; cases hlfH
    refine lc_range (lo := 0) (n := xs.length) (fun i H' => SameS a H H' ∧ ∃ rs fs, H' lr = some (.lst rs) ∧ H' lf = some (.lst fs) ∧ (fs ++ rs).Perm xs ∧ fs.length = i ∧ Strm H' a (n + i))
      ⟨((SameS.refl H).at hlr).new hlf, xs, [], by rw [upd_ne nfr]; exact upd_same, upd_same, by simp, rfl, ?_⟩ ?_ ?_
    · obtain ⟨c, x, y, h1, h2⟩ := hs
      exact ⟨c, x, y, by rw [upd_ne (Ne.symm nfa), upd_ne (Ne.symm nra)]; exact h1, h2⟩
    · rintro i H2 hi ⟨sm2, rs, fs, hr2, hf2, hp, hfi, hs2⟩
      have hperm := hp.length_eq
      rw [List.length_append] at hperm
      have hrl : 0 < rs.length := by omega
      refine ⟨rfl, ?_⟩
      refine ⟨_, rfl, .inl ⟨rfl, _, SqL.of hr2⟩, _, rfl, _, rfl, lr, rs, rfl, .inl (SqL.of hr2), a, n + i, rs.length, rfl, hs2, by omega, hrl, by omega, fun u d hd hs3 => ?_⟩
      have sm3 : SameS a H (upd H2 a (.lst u)) := sm2.upd
      have hr3 : upd H2 a (.lst u) lr = some (.lst rs) := by rw [upd_ne nra]; exact hr2
      have hf3 : upd H2 a (.lst u) lf = some (.lst fs) := by rw [upd_ne nfa]; exact hf2
      generalize upd H2 a (.lst u) = H3 at sm3 hr3 hf3 hs3 ⊢
      have hx : rs[d]? = some rs[d] := by simp [hd]
      refine ⟨lr, rs, d, d, rs[d], rfl, rfl, hr3, by omega, by omega, seqIndex_of (by omega) (by omega), hx, ?_⟩
      have hf4 : upd H3 lr (.lst (rs.eraseIdx d)) lf = some (.lst fs) := by rw [upd_ne (Ne.symm nfr)]; exact hf3
      refine ⟨fs, hf4, Nat.lt_of_lt_of_le (show fs.length < 1000000 by omega) (by decide), ?_⟩
      have hr5 : upd (upd H3 lr (.lst (rs.eraseIdx d))) lf (.lst (fs ++ [rs[d]])) lr = some (.lst (rs.eraseIdx d)) := by rw [upd_ne nfr]; exact upd_same
      refine ⟨(sm3.at hlr).at hlfH, rs.eraseIdx d, fs ++ [rs[d]], hr5, upd_same, ?_, by rw [List.length_append, hfi]; rfl, ?_⟩
      · rw [List.append_assoc]
        refine List.Perm.trans (List.Perm.append_left fs ?_) hp
        exact perm_erase hd
      · obtain ⟨c, x, y, h1, h2, h3, h4, h5, h6⟩ := hs3
        exact ⟨c, x, y, by rw [upd_ne (Ne.symm nfa), upd_ne (Ne.symm nra)]; exact h1, h2, h3, h4, h5, by omega⟩
    · rintro H2 ⟨sm2, rs, fs, hr2, hf2, hp, hfi, hs2⟩
      have hperm := hp.length_eq
      rw [List.length_append] at hperm
      have hrs : rs = [] := List.length_eq_zero_iff.mp (by omega)
      subst hrs
      rw [List.append_nil] at hp
      exact k H2 lf fs sm2 hp hlfH hf2 hs2
end
end Q1
set_option Elab.async false
set_option linter.all false
set_option maxRecDepth 100000
set_option maxHeartbeats 4000000
namespace Q1
open PySem L2 LamX
def rSeqA (K : PySem.W.Frag) : R2 := fun x y H Q => ∃ (p : Addr) (xs : List V) (i : Int) (v : V), x = .ref p ∧ y = .int i ∧ (SqL K H p xs ∨ SqT K H p xs) ∧ atI xs i = some v ∧ Q v H
theorem ix_seqA {X : Cx} : IxR X (rSeqA X.K) := by
  intro value slice pins s σ H x y v u Q I rx ry h hs
  obtain ⟨p, xs, i, z, e1, e2, hq, he, q⟩ := h
  rcases hq with hq | hq
  · exact ix_list value slice pins s σ H x y v u Q I rx ry ⟨p, xs, i, z, e1, e2, hq, he, q⟩ hs
  · exact ix_tup value slice pins s σ H x y v u Q I rx ry ⟨p, xs, i, z, e1, e2, hq, he, q⟩ hs
theorem for_enumA {K : PySem.W.Frag} {a : Addr} {xs : List V} {g : TG} {tb : TS} {D : Ends} {σ : L2.St} {H Hb : Hp} (hq : SqL K Hb a xs ∨ SqT K Hb a xs) (Pv : Nat → L2.St → Hp → Prop) (h0 : Pv 0 σ H) (hS : ∀ i σ H', i ≤ xs.length → Pv i σ H' → Same Hb H')
    (hs : ∀ (i : Nat) T x σ H', xs[i]? = some x → Pv i σ H' → H' T = none → g (.ref T) σ (upd H' T (.tup [.int (i : Nat), x])) fun σ2 H2 => tb { D with nx := Pv (i + 1), ct := Pv (i + 1), bk := D.nx } σ2 H2) (hd : ∀ σ H', Pv xs.length σ H' → D.nx σ H') :
    ((SqL K H a xs ∧ (fun J H => ∃ W : Nat → Nat → L2.St → Hp → Prop, (∃ m, W 0 m σ H) ∧ ∀ i m σ H, W i m σ H → (It.stop J i H ∧ D.nx σ H) ∨ (It.go J i H ∧ ∃ N : L2.St → Hp → Prop, (∀ σ' H', N σ' H' → ∃ m', m' < m ∧ W (i + 1) m' σ' H') ∧ ∀ x H', It.yld J i H x H' → g x σ H' fun σ2 H2 => tb { D with nx := N, ct := N, bk := D.nx } σ2 H2)) (Ite K a) H) ∨
    (SqT K H a xs ∧ (fun J H => ∃ W : Nat → Nat → L2.St → Hp → Prop, (∃ m, W 0 m σ H) ∧ ∀ i m σ H, W i m σ H → (It.stop J i H ∧ D.nx σ H) ∨ (It.go J i H ∧ ∃ N : L2.St → Hp → Prop, (∀ σ' H', N σ' H' → ∃ m', m' < m ∧ W (i + 1) m' σ' H') ∧ ∀ x H', It.yld J i H x H' → g x σ H' fun σ2 H2 => tb { D with nx := N, ct := N, bk := D.nx } σ2 H2)) (IteT K a) H)) := by
  have b0 := hS 0 σ H (Nat.zero_le _) h0
  rcases hq with hq | hq
  · refine .inl ⟨b0.seq hq, for_it walk_enum Pv h0 (fun i σ' H' hi p => (hS i σ' H' hi p).seq hq) (fun i x σ' H' H2 hi p y => ?_) hd⟩
    obtain ⟨T, x1, x2, rfl, hT, rfl, e1, e2⟩ := y
    cases e1
    exact hs i T x2 σ' H' e2 p hT
  · refine .inr ⟨seqT b0 hq, for_it walk_enumT Pv h0 (fun i σ' H' hi p => seqT (hS i σ' H' hi p) hq) (fun i x σ' H' H2 hi p y => ?_) hd⟩
    obtain ⟨T, x1, x2, rfl, hT, rfl, e1, e2⟩ := y
    cases e1
    exact hs i T x2 σ' H' e2 p hT
/-- the index of the first thing at which the fold stops -/
def stopAt {α β : Type} (f : β → α → Option β) : List α → β → Nat → Option Nat
  | [], _, _ => none
  | a :: as, b, n => match f b a with
    | none => some n
    | some c => stopAt f as c (n + 1)
theorem stopAt_some {α β : Type} {f : β → α → Option β} {a : α} {c : β} : ∀ {xs : List α} {i : Nat} {b : β} (n : Nat), optFold f (xs.take i) b = some c → xs[i]? = some a → f c a = none → stopAt f xs b n = some (n + i)
  | [], i, b, n, _, e, _ => by simp at e
  | x :: xs, 0, b, n, h, e, hn => by
    have h1 : b = c := Option.some.inj h
    have h2 : x = a := Option.some.inj e
    subst h1 h2
    show (match f b x with | none => some n | some d => stopAt f xs d (n + 1)) = _
    rw [hn]
    rfl
  | x :: xs, i + 1, b, n, h, e, hn => by
    have h : (match f b x with | none => none | some d => optFold f (xs.take i) d) = some c := h
    show (match f b x with | none => some n | some d => stopAt f xs d (n + 1)) = _
    cases q : f b x with
    | none => rw [q] at h; cases h
    | some d =>
      rw [q] at h
      have := stopAt_some (i := i) (n + 1) (show optFold f (xs.take i) d = some c from h) (show xs[i]? = some a from e) hn
      show stopAt f xs d (n + 1) = _
      rw [this]
      congr 1
      omega
theorem stopAt_none {α β : Type} {f : β → α → Option β} {c : β} : ∀ {xs : List α} {b : β} (n : Nat), optFold f xs b = some c → stopAt f xs b n = none
  | [], _, _, _ => rfl
  | x :: xs, b, n, h => by
    have h : (match f b x with | none => none | some d => optFold f xs d) = some c := h
    show (match f b x with | none => some n | some d => stopAt f xs d (n + 1)) = _
    cases q : f b x with
    | none => rw [q] at h; cases h
    | some d => rw [q] at h; exact stopAt_none (n + 1) h
def optV : Option Nat → V
  | none => .non
  | some n => .int (n : Nat)
end Q1
namespace LamX
open PySem L2
theorem ExtN.seq {K : PySem.W.Frag} {H H' : Hp} {a : Addr} {xs : List V} (e : ExtN H H') (h : SqL K H a xs) : SqL K H' a xs := by
  rcases h with (h | ⟨o, h⟩) | h
  · exact .inl (.inl (e _ _ h (fun _ z => by cases z)))
  · exact .inl (.inr ⟨o, e _ _ h (fun _ z => by cases z)⟩)
  · exact .inr h
end LamX
namespace Q1
open PySem L2 LamX
theorem extN_seqL {K : PySem.W.Frag} {H H' : Hp} {a : Addr} {xs : List V} (e : ExtN H H') (h : SqL K H a xs) : SqL K H' a xs := e.seq h
theorem extN_seqT {K : PySem.W.Frag} {H H' : Hp} {a : Addr} {xs : List V} (e : ExtN H H') (h : SqT K H a xs) : SqT K H' a xs := by
  rcases h with (h | ⟨o, h⟩) | h
  · exact .inl (.inl (e _ _ h (fun _ z => by cases z)))
  · exact .inl (.inr ⟨o, e _ _ h (fun _ z => by cases z)⟩)
  · exact .inr h
/-- a walk over a list or a tuple that stands in what stays -/
theorem seq_walk {K : PySem.W.Frag} {a : Addr} {xs : List V} {H1 Hb : Hp} {R : It → Hp → Prop} (hb : ExtN Hb H1) (hq : SqL K Hb a xs ∨ SqT K Hb a xs) (h : ∀ (J : It) (G : Hp → Prop), Walk J xs.length G (YAt xs) → (∀ H', ExtN Hb H' → G H') → R J H1) :
    ((∃ xs, SqL K H1 a xs) ∧ R (Itl K a) H1) ∨ ((∃ xs, SqT K H1 a xs) ∧ R (Itt K a) H1) := by
  rcases hq with hq | hq
  · exact .inl ⟨⟨xs, extN_seqL hb hq⟩, h _ _ walk_list fun H' e => extN_seqL e hq⟩
  · exact .inr ⟨⟨xs, extN_seqT hb hq⟩, h _ _ walk_tup fun H' e => extN_seqT e hq⟩
/-- a comprehension over a list or a tuple -/
theorem lc_seq {K : PySem.W.Frag} {a : Addr} {xs : List V} {H1 Hb : Hp} {g : TG} {tt : TT} {te : TE} {vs : List Nat} {σ : L2.St} {Qd : Addr → Hp → Prop} (hb : ExtN Hb H1) (hq : SqL K Hb a xs ∨ SqT K Hb a xs)
    (Pv : Addr → Nat → Hp → Prop) (h0 : ∀ D, H1 D = none → Pv D 0 (upd H1 D (.lst []))) (hS : ∀ D i H', Pv D i H' → ExtN Hb H')
    (hs : ∀ D, H1 D = none → ∀ i x H, xs[i]? = some x → Pv D i H → g x (wipe σ vs) H fun σ2 H2 => wipe σ2 vs = wipe σ vs ∧ tt σ2 H2 fun b H3 =>
      if b = true then te σ2 H3 fun y H4 => ∃ acc, H4 D = some (.lst acc) ∧ acc.length < sizeLine ∧ Pv D (i + 1) (upd H4 D (.lst (acc ++ [y]))) else Pv D (i + 1) H3) (hd : ∀ D, H1 D = none → ∀ H, Pv D xs.length H → Qd D H) :
    ((∃ xs, SqL K H1 a xs) ∧ (fun (J : It) (H1 : Hp) => ∀ D, H1 D = none → ∃ W : Nat → Nat → Hp → Prop, (∃ m, W 0 m (upd H1 D (.lst []))) ∧ ∀ i m H, W i m H →
      (J.stop i H ∧ Qd D H) ∨ (J.go i H ∧ ∃ Nx : Hp → Prop, (∀ H', Nx H' → ∃ m', m' < m ∧ W (i + 1) m' H') ∧ ∀ x H', J.yld i H x H' → g x (wipe σ vs) H' fun σ2 H2 => wipe σ2 vs = wipe σ vs ∧ tt σ2 H2 fun b H3 =>
        if b = true then te σ2 H3 fun y H4 => ∃ acc, H4 D = some (.lst acc) ∧ acc.length < sizeLine ∧ Nx (upd H4 D (.lst (acc ++ [y]))) else Nx H3)) (Itl K a) H1) ∨ ((∃ xs, SqT K H1 a xs) ∧ (fun (J : It) (H1 : Hp) => ∀ D, H1 D = none → ∃ W : Nat → Nat → Hp → Prop, (∃ m, W 0 m (upd H1 D (.lst []))) ∧ ∀ i m H, W i m H →
      (J.stop i H ∧ Qd D H) ∨ (J.go i H ∧ ∃ Nx : Hp → Prop, (∀ H', Nx H' → ∃ m', m' < m ∧ W (i + 1) m' H') ∧ ∀ x H', J.yld i H x H' → g x (wipe σ vs) H' fun σ2 H2 => wipe σ2 vs = wipe σ vs ∧ tt σ2 H2 fun b H3 =>
        if b = true then te σ2 H3 fun y H4 => ∃ acc, H4 D = some (.lst acc) ∧ acc.length < sizeLine ∧ Nx (upd H4 D (.lst (acc ++ [y]))) else Nx H3)) (Itt K a) H1) := by
  rcases hq with hq | hq
  · refine .inl ⟨⟨xs, extN_seqL hb hq⟩, fun D hD => lc_it walk_list (Pv D) (h0 D hD) (fun i H' _ p => extN_seqL (hS D i H' p) hq) (fun i x H' H2 hi p y => ?_) (hd D hD)⟩
    obtain ⟨rfl, hx⟩ := y
    exact hs D hD i x _ hx p
  · refine .inr ⟨⟨xs, extN_seqT hb hq⟩, fun D hD => lc_it walk_tup (Pv D) (h0 D hD) (fun i H' _ p => extN_seqT (hS D i H' p) hq) (fun i x H' H2 hi p y => ?_) (hd D hD)⟩
    obtain ⟨rfl, hx⟩ := y
    exact hs D hD i x _ hx p
theorem ExtN.at' {H H1 : Hp} {D : Addr} {o : HO} (h : ExtN H H1) (hD : H D = none) : ExtN H (upd H1 D o) := fun a u e n => by
  rw [upd_ne (ne_of_none e hD)]
  exact h a u e n
theorem tabs_upd {T : List (Addr × Str)} {H : Hp} {p : Addr} {o u : HO} (h : Tabs T H) (hp : H p = some u) (h1 : ∀ ps, u ≠ .tbl ps) (h2 : ∀ q, u ≠ CodeO p q) : Tabs T (upd H p o) := fun x hx => by
  obtain ⟨ps, a1, a2, a3⟩ := h x hx
  refine ⟨ps, ?_, a2, fun pos cv hc => ?_⟩
  · rw [upd_ne (ne_of a1 hp (fun z => h1 ps z.symm))]
    exact a1
  · obtain ⟨c, b1, b2⟩ := a3 pos cv hc
    refine ⟨c, b1, ?_⟩
    have : c ≠ p := fun z => by
      subst z
      rw [hp] at b2
      exact h2 _ (Option.some.inj b2)
    rw [upd_ne this]
    exact b2
theorem tabs_lst {T : List (Addr × Str)} {H : Hp} {p : Addr} {o : HO} {vs : List V} (h : Tabs T H) (hp : H p = some (.lst vs)) : Tabs T (upd H p o) := tabs_upd h hp (fun _ z => by cases z) (fun _ z => by unfold CodeO at z; cases z)
theorem tabs_new {T : List (Addr × Str)} {H : Hp} {p : Addr} {o : HO} (h : Tabs T H) (hp : H p = none) : Tabs T (upd H p o) := h.ext (Same.new hp)
/-- no known object that is no table -/
def NewN (H : Hp) : Addr → Prop := fun a => ∀ o, H a = some o → ∃ ps, o = .tbl ps
theorem extN_of {H H' : Hp} (e : Same H H') : ExtN H H' := fun b o h _ => e b o h
/-- all stays but the stream and the tables that grow -/
def ExtS (s : Addr) (H H' : Hp) : Prop := ∀ a o, a ≠ s → H a = some o → (∀ ps, o ≠ .tbl ps) → H' a = some o
theorem ExtS.of {s : Addr} {H H' : Hp} (h : SameS s H H') : ExtS s H H' := fun a o n e _ => h a o n e
theorem ExtS.ofN {s : Addr} {H H' : Hp} (h : ExtN H H') : ExtS s H H' := fun a o _ e t => h a o e t
theorem ExtS.trans {s : Addr} {H H1 H2 : Hp} (a : ExtS s H H1) (b : ExtS s H1 H2) : ExtS s H H2 := fun x o n e t => b x o n (a x o n e t) t
theorem tabs_sameS {T : List (Addr × Str)} {s : Addr} {H H' : Hp} {u : List V} (h : SameS s H H') (hs : H s = some (.lst u)) (t : Tabs T H) : Tabs T H' := fun x hx => by
  obtain ⟨ps, a1, a2, a3⟩ := t x hx
  refine ⟨ps, h _ _ (fun z => by rw [z, hs] at a1; cases a1) a1, a2, fun pos cv hc => ?_⟩
  obtain ⟨c, b1, b2⟩ := a3 pos cv hc
  exact ⟨c, b1, h _ _ (fun z => by rw [z, hs] at b2; unfold CodeO at b2; cases b2) b2⟩
theorem newN_back {a b : Addr} {H H' : Hp} {n : Nat} (s : SameS a H H') (t : Strm H' a n) (e : NewN H' b) : NewN H b := fun o q => by
  by_cases z : b = a
  · obtain ⟨u, hu⟩ := t.lst
    obtain ⟨ps, h⟩ := e _ (z ▸ hu)
    cases h
  · exact e o (s b o z q)
theorem strm_extN {a : Addr} {H H' : Hp} {n : Nat} (t : Strm H a n) (e : ExtN H H') : Strm H' a n := by
  obtain ⟨c, m, k, h1, h2⟩ := t
  exact ⟨c, m, k, e _ _ h1 (fun _ z => nomatch z), h2⟩
theorem sameS_back {a b : Addr} {H H' : Hp} {n : Nat} (s : SameS a H H') (t : Strm H' a n) (e : H' b = none) : H b = none := by
  obtain ⟨u, hu⟩ := t.lst
  exact s.none (fun z => by rw [z, hu] at e; cases e) e
theorem sameS_rep {a : Addr} {S : Addr → Prop} {H H' : Hp} {n : Nat} {d : D} {v : V} (s : SameS a H H') (t : Strm H a n) (hS : ¬ S a) (r : Rep S H d v) : Rep S H' d v := by
  obtain ⟨u, hu⟩ := t.lst
  exact Rep.mono (fun _ z => z) (s.stay hu hS) r
theorem sameS_reps {a : Addr} {S : Addr → Prop} {H H' : Hp} {n : Nat} {d : List D} {v : List V} (s : SameS a H H') (t : Strm H a n) (hS : ¬ S a) (r : Reps S H d v) : Reps S H' d v := by
  obtain ⟨u, hu⟩ := t.lst
  exact Reps.mono (fun _ z => z) (s.stay hu hS) r
end Q1
set_option Elab.async false
set_option linter.all false
set_option maxRecDepth 100000
set_option maxHeartbeats 4000000
namespace Q1
open PySem L2 LamX
section
variable {P : Program} {w : World} {K : PySem.W.Frag} {mg : Str → Option Value} {base : Heap}
/-! ### _law_well -/
abbrev sStream : Stmt := top 35
abbrev nStream : List Str := ["script", "place", "cell", "mixed", "at", "one"]
theorem scStream : FnScope nStream ["script", "place"] (defScope sStream) := ⟨rfl, rfl, rfl, by decide +kernel, rfl, by decide +kernel, by decide +kernel⟩
def rAbs : List V → Hp → VK → Prop := fun xs H Q => ∃ i, xs = [.int i] ∧ Q (.int (if i < 0 then -i else i)) H
theorem call_abs' {X : Cx} : CallR X (.builtin "abs") rAbs := call_abs
def spStream (K : PySem.W.Frag) : Sp := fun vs H Q _ => ∃ (l : Addr) (k : Nat) (ns : List Int), vs = [.ref l, .int (k : Nat)] ∧ SqL K H l (ns.map V.int) ∧ k < 1000 ∧ ns.length < 1000000 ∧
  ∀ H' s, Same H H' → H s = none → Strm H' s 0 → Q (.ref s) H'
theorem cutV_ints (ns : List Int) (lo hi : Option Int) : ∃ ms : List Int, cutV (ns.map V.int) lo hi = ms.map V.int := by
  unfold cutV
  exact ⟨_, by rw [← List.map_drop, ← List.map_take]⟩
theorem tIf_two {tc : TT} {ta tb : TE} {σ : L2.St} {H : Hp} {Q : VK} (R : V → Hp → Prop) (h : ∀ Q' : VK, (∀ v H1, R v H1 → Q' v H1) → tIf tc ta tb σ H Q') (k : ∀ v H1, R v H1 → Q v H1) : tIf tc ta tb σ H Q := h Q k
theorem ok_stream (B : Bt mg) (N : Dn K mg "_law_well" sStream ["script", "place"]) : FnOk P w K mg base CX0 1 N.f N.fd ["script", "place"] (spStream K) := by
  refine N.F.ok scStream (fun vs H Q E h => ?_) (fun cdv A outer s H vs Q E hr h => ?_)
  · obtain ⟨l, k, ns, rfl, _⟩ := h
    rfl
  · obtain ⟨l, m, ns, rfl, hl, hm, hn, k⟩ := h
    refine ⟨_, pss_cons (ps_set (i := 2) scStream.nd rfl (Or.inl rfl) (pe_ifExp (pt_cmp (pc_lt (pv 1) (pe_callB call_len_seq (by rfl) B.len boot_len (pa_cons (pv 0) pa_nil))) (by rfl))
        (pe_ix ix_list (pv 0) (pv 1) (fun _ _ => rfl))
        (pe_op op_add (pe_op op_add (pe_op op_mod (pe_callTy call_int1' (by rfl) B.int PyProof.Rows.boot_int (pa_cons (pe_callB (cr_sum rfl) (by rfl) B.sum PyProof.Rows.boot_sum (pa_cons (pe_slice sl_list (pv 0) po_none (po_some pe_int)) pa_nil)) pa_nil)) pe_int) (pe_op op_mul pe_int (pv 1))) pe_int)))
      (pss_cons (ps_set (i := 3) scStream.nd rfl (Or.inl rfl) pe_int)
      (pss_cons (ps_for PassesOwn.never rfl (pi_enumA (by rfl) B.enumerate (pa_cons (pv 0) pa_nil)) (pg_tup rfl (pgs_cons (pg_name (i := 4) scStream.nd rfl (Or.inl rfl)) (pgs_cons (pg_name (i := 5) scStream.nd rfl (Or.inl rfl)) pgs_nil)))
        (pss_one (ps_set (i := 3) scStream.nd rfl (Or.inl rfl) (pe_op op_mod (pe_callTy call_int1' (by rfl) B.int PyProof.Rows.boot_int (pa_cons (pe_op op_add (pe_op op_add (pe_op op_mul (pv 3) pe_int) (pe_callB call_abs' (by rfl) B.abs PyProof.Rows.boot_abs (pa_cons (pv 5) pa_nil))) (pv 4)) pa_nil)) pe_int))))
      (pss_one (ps_ret (pe_lst (pa_cons (pe_ifExp (pt_cmp (pc_ge (pv 2) (pe_op op_pow pe_int pe_int)) (by rfl)) (pv 2) pe_int)
        (pa_cons (pe_op op_add (pe_op op_mod (pe_callTy call_int1' (by rfl) B.int PyProof.Rows.boot_int (pa_cons (pe_op op_add (pe_callB call_abs' (by rfl) B.abs PyProof.Rows.boot_abs (pa_cons (pv 2) pa_nil)) (pe_op op_mul pe_int (pv 3))) pa_nil)) pe_int) (pe_op op_mul pe_int (pv 1))) (pa_cons pe_int pa_nil)))))))), ?_⟩
    refine tIf_two (R := fun v H1 => ∃ c : Int, v = .int c ∧ Same H H1) (fun Q' hQ => ?_) ?_
    · refine ⟨_, rfl, _, rfl, l, _, rfl, .inl hl, m, _, rfl, rfl, ⟨_, rfl, ite2 (fun h1 => ?_) (fun h1 => ?_)⟩⟩
      · have h2 : m < ns.length := by have := of_decide_eq_true h1; rw [List.length_map] at this; omega
        exact ⟨_, rfl, _, rfl, l, _, m, .int ns[m], rfl, rfl, hl, atI_nat (by rw [List.getElem?_map, List.getElem?_eq_getElem h2]; rfl), hQ _ _ ⟨_, rfl, fun _ _ e => e⟩⟩
      · refine ⟨_, rfl, 1, rfl, l, _, rfl, hl, fun p hp => ?_⟩
        obtain ⟨ms, hms⟩ := cutV_ints ns none (some 1)
        rw [hms]
        exact ⟨p, ms, rfl, SqL.of upd_same, .inl ⟨_, rfl, _, 999983, rfl, rfl, (show (0 : Int) < 999983 by decide), _, rfl, 11, m, rfl, rfl, .inl ⟨by decide, by decide⟩, _, _, rfl, rfl, _, 5, rfl, rfl, hQ _ _ ⟨_, rfl, Same.new hp⟩⟩⟩
    · rintro _ H1 ⟨c, rfl, sm⟩
      have hl1 : SqL K H1 l (ns.map V.int) := extN_seqL (extN_of sm) hl
      refine ⟨_, rfl, l, _, rfl, for_enumA (Hb := H1) (.inl hl1) (fun i σ H' => (∃ (y : Int) (o4 o5 : Option V), σ = [some (.ref l), some (.int (m : Nat)), some (.int c), some (.int y), o4, o5] ∧ 0 ≤ y ∧ y < 2147483629) ∧ Same H1 H') ⟨⟨0, none, none, rfl, by decide, by decide⟩, Same.refl _⟩ (fun i σ H' _ z => z.2) ?_ ?_⟩
      · rintro i T x σ H' hx ⟨⟨y, o4, o5, rfl, h0, h1⟩, sm'⟩ hT
        obtain ⟨j, rfl⟩ : ∃ j : Int, x = .int j := by
          obtain ⟨j, _, e⟩ := List.mem_map.mp (List.mem_of_getElem? hx)
          exact ⟨j, e.symm⟩
        refine ⟨T, _, rfl, SqT.of upd_same, rfl, ?_⟩
        refine ⟨_, _, rfl, _, _, rfl, rfl, ?_⟩
        refine ⟨_, rfl, y, 131, rfl, rfl, .inl ⟨by omega, by omega⟩, _, rfl, j, rfl, _, _, rfl, rfl, _, rfl, _, (i : Nat), rfl, rfl, .inl ⟨_, rfl, _, 2147483629, rfl, rfl, (show (0 : Int) < 2147483629 by decide), ?_⟩⟩
        exact ⟨⟨_, _, _, rfl, Int.emod_nonneg _ (by decide), Int.emod_lt_of_pos _ (by decide)⟩, sm'.trans (Same.new hT)⟩
      · rintro σ H2 ⟨⟨y, o4, o5, rfl, h0, h1⟩, sm'⟩
        show tIf (tB (tGe (tVar 2) (tOp (rI CPow fun i j => V.int (i ^ j.toNat)) (tC (V.int 10)) (tC (V.int 18))))) (tVar 2) (tC (V.int 0)) [some (.ref l), some (.int m), some (.int c), some (.int y), o4, o5] H2 _
        refine tIf_two (R := fun v H3 => ∃ e : Int, v = .int e ∧ 0 ≤ e ∧ H3 = H2) (fun Q' hQ => ?_) ?_
        · refine ⟨_, rfl, 10, 18, rfl, rfl, ⟨by decide, by decide, by decide⟩, c, _, rfl, rfl, ⟨_, rfl, ite2 (fun h1 => ?_) (fun h1 => ?_)⟩⟩
          · have hc := of_decide_eq_true h1
            exact ⟨_, rfl, hQ _ _ ⟨_, rfl, Int.le_trans (by decide) hc, rfl⟩⟩
          · exact hQ _ _ ⟨0, rfl, by decide, rfl⟩
        · rintro _ _ ⟨e, rfl, he, rfl⟩
          refine ⟨_, rfl, c, rfl, _, rfl, 31, y, rfl, rfl, .inl ⟨by decide, by decide⟩, _, _, rfl, rfl, .inl ⟨_, rfl, _, 2147483629, rfl, rfl, (show (0 : Int) < 2147483629 by decide), _, rfl, 17, m, rfl, rfl, .inl ⟨by decide, by decide⟩, _, _, rfl, rfl, by show 3 ≤ sizeLine; decide, fun q hq => ?_⟩⟩
          have smH := sm.trans sm'
          obtain ⟨z, hz⟩ : ∃ z, (if c < 0 then -c else c) + 31 * y = z := ⟨_, rfl⟩
          have hy := Int.emod_nonneg z (show (2147483629 : Int) ≠ 0 by decide)
          have hy2 := Int.emod_lt_of_pos z (show (0 : Int) < 2147483629 by decide)
          exact k _ q (smH.trans (Same.new hq)) (by cases z : H q with
            | none => rfl
            | some o => rw [smH _ _ z] at hq; cases hq) ⟨e, _, 0, upd_same, he, by rw [hz]; omega, by rw [hz]; omega, by omega, by omega⟩
end
end Q1
set_option Elab.async false
set_option linter.all false
set_option maxRecDepth 100000
set_option maxHeartbeats 4000000
namespace Q1
open PySem L2 LamX
mutual
def D.free : D → Prop
  | .lst _ => False
  | .tup xs => frees xs
  | _ => True
def frees : List D → Prop
  | [] => True
  | x :: xs => x.free ∧ frees xs
end
mutual
theorem Rep.free {S S' : Addr → Prop} {H : Hp} : ∀ {d : D} {v : V}, Rep S H d v → d.free → Rep S' H d v
  | .non, _, h, _ => h
  | .bl _, _, h, _ => h
  | .int _, _, h, _ => h
  | .str _, _, h, _ => h
  | .dic, _, h, _ => h
  | .lst xs, _, _, f => f.elim
  | .tup xs, _, h, f => by
    obtain ⟨a, vs, rfl, ha, r⟩ := h
    exact ⟨a, vs, rfl, ha, Reps.free r f⟩
theorem Reps.free {S S' : Addr → Prop} {H : Hp} : ∀ {ds : List D} {vs : List V}, Reps S H ds vs → frees ds → Reps S' H ds vs
  | [], _, h, _ => h
  | d :: ds, _, h, f => by
    obtain ⟨v, r, rfl, h1, h2⟩ := h
    exact ⟨v, r, rfl, Rep.free h1 f.1, Reps.free h2 f.2⟩
end
theorem free_of_mem : ∀ {ds : List D}, (∀ d ∈ ds, d.free) → frees ds
  | [], _ => trivial
  | d :: ds, h => ⟨h d List.mem_cons_self, free_of_mem fun x hx => h x (List.mem_cons_of_mem _ hx)⟩
def strV : V → Str
  | .str x => x
  | _ => ""
theorem perm_strs {ys : List V} {L : List Str} (h : ys.Perm (L.map V.str)) : ∃ l : List Str, l.Perm L ∧ ys = l.map V.str := by
  refine ⟨ys.map strV, ?_, ?_⟩
  · have := h.map strV
    rw [List.map_map] at this
    have e : L.map (strV ∘ V.str) = L := by
      rw [show (strV ∘ V.str) = id from rfl, List.map_id]
    rw [e] at this
    exact this
  · rw [List.map_map]
    refine (List.map_id ys).symm.trans (List.map_congr_left fun v hv => ?_)
    obtain ⟨x, _, rfl⟩ := List.mem_map.mp (h.subset hv)
    rfl
theorem cutV_take (xs : List V) (k : Nat) : cutV xs none (some (k : Int)) = xs.take k := by
  unfold cutV
  rw [HT.sIx_none, HT.sIx_nat, List.drop_zero, Nat.sub_zero]
  by_cases h : k ≤ xs.length
  · rw [Nat.min_eq_left h]
  · rw [Nat.min_eq_right (by omega), List.take_of_length_le (Nat.le_refl _), List.take_of_length_le (by omega)]
theorem ok_str {n : Nat} {x : Str} (h : PyData.strOk x = true) : (D.str x).ok n := by
  cases n <;> simpa only [D.ok] using h
theorem oks_strs (n : Nat) {l : List Str} (h : ∀ x ∈ l, PyData.strOk x = true) : oks n (l.map D.str) := oks_mem fun d hd => by
  obtain ⟨x, hx, rfl⟩ := List.mem_map.mp hd
  exact ok_str (h x hx)
def intV : V → Int
  | .int x => x
  | _ => 0
theorem perm_ints {ys : List V} {L : List Int} (h : ys.Perm (L.map V.int)) : ∃ l : List Int, l.Perm L ∧ ys = l.map V.int := by
  refine ⟨ys.map intV, ?_, ?_⟩
  · have := h.map intV
    rw [List.map_map] at this
    have e : L.map (intV ∘ V.int) = L := by
      rw [show (intV ∘ V.int) = id from rfl, List.map_id]
    rw [e] at this
    exact this
  · rw [List.map_map]
    refine (List.map_id ys).symm.trans (List.map_congr_left fun v hv => ?_)
    obtain ⟨x, _, rfl⟩ := List.mem_map.mp (h.subset hv)
    rfl
theorem sub_of {names : List Str} : ∀ (js : List Int) (k : Nat), js.Pairwise (· < ·) → (∀ j ∈ js, (k : Int) ≤ j ∧ j < (names.length : Int)) → (js.map fun j => names.getD j.toNat "").Sublist (names.drop k)
  | [], k, _, _ => List.nil_sublist _
  | j :: js, k, hp, hb => by
    obtain ⟨h1, h2⟩ := hb j List.mem_cons_self
    rw [List.pairwise_cons] at hp
    have hlt : j.toNat < names.length := by omega
    have e : names.drop j.toNat = names.getD j.toNat "" :: names.drop (j.toNat + 1) := by
      rw [List.drop_eq_getElem_cons hlt, List.getD_eq_getElem?_getD, List.getElem?_eq_getElem hlt]
      rfl
    refine List.Sublist.trans ?_ (List.drop_sublist_drop_left names (show k ≤ j.toNat by omega))
    rw [e, List.map_cons]
    refine List.Sublist.cons_cons _ (sub_of js (j.toNat + 1) hp.2 fun i hi => ?_)
    have := hp.1 i hi
    have := hb i (List.mem_cons_of_mem _ hi)
    omega
theorem Strm.at {H : Hp} {s D : Addr} {n : Nat} {o : HO} (h : Strm H s n) (hD : D ≠ s) : Strm (upd H D o) s n := by
  obtain ⟨c, m, k, h1, h2⟩ := h
  exact ⟨c, m, k, by rw [upd_ne (Ne.symm hD)]; exact h1, h2⟩
theorem ok_int (n : Nat) (i : Int) : (D.int i).ok n := by
  cases n <;> simp only [D.ok]
theorem SameS.seqL {K : PySem.W.Frag} {s l : Addr} {H H' : Hp} {xs : List V} (h : SameS s H H') (n : l ≠ s) (q : SqL K H l xs) : SqL K H' l xs := by
  rcases q with (q | ⟨o, q⟩) | q
  · exact .inl (.inl (h l _ n q))
  · exact .inl (.inr ⟨o, h l _ n q⟩)
  · exact .inr q
def upTo (n : Nat) : List Int := (List.range n).map Int.ofNat
theorem rgV_ints (n : Nat) : rgV 0 (n : Int) = (upTo n).map V.int := by
  unfold rgV upTo
  rw [Int.sub_zero, Int.toNat_natCast, List.map_map]
  exact List.map_congr_left fun i _ => by rw [Int.zero_add]; rfl
theorem perm_map_inv {α β : Type} {f : α → β} {l m : List β} (h : l.Perm m) : ∀ {L : List α}, m = L.map f → ∃ l' : List α, l'.Perm L ∧ l = l'.map f := by
  induction h with
  | nil => intro L e; cases L with
    | nil => exact ⟨[], .nil, rfl⟩
    | cons _ _ => cases e
  | cons x p ih =>
    intro L e
    cases L with
    | nil => cases e
    | cons a L =>
      rw [List.map_cons] at e
      injection e with e1 e2
      obtain ⟨l', h1, h2⟩ := ih e2
      exact ⟨a :: l', h1.cons a, by rw [List.map_cons, h2, e1]⟩
  | swap x y l =>
    intro L e
    match L, e with
    | a :: b :: L, e =>
      rw [List.map_cons, List.map_cons] at e
      injection e with e1 e2
      injection e2 with e2 e3
      exact ⟨b :: a :: L, .swap a b L, by rw [List.map_cons, List.map_cons, e1, e2, e3]⟩
    | [_], e => cases e
    | [], e => cases e
  | trans p q ih1 ih2 =>
    intro L e
    obtain ⟨l1, h1, h2⟩ := ih2 e
    obtain ⟨l2, h3, h4⟩ := ih1 h2
    exact ⟨l2, h3.trans h1, h4⟩
theorem reps_perm {S : Addr → Prop} {H : Hp} {ys vs : List V} (h : ys.Perm vs) : ∀ {ds : List D}, Reps S H ds vs → ∃ es : List D, es.Perm ds ∧ Reps S H es ys := by
  induction h with
  | nil => intro ds r; exact ⟨ds, .refl _, r⟩
  | cons x p ih =>
    intro ds r
    cases ds with
    | nil => cases r
    | cons d ds =>
      obtain ⟨v, rs, e, h1, h2⟩ := r
      cases e
      obtain ⟨es, h3, h4⟩ := ih h2
      exact ⟨d :: es, h3.cons d, _, _, rfl, h1, h4⟩
  | swap x y l =>
    intro ds r
    match ds, r with
    | d :: e :: ds, r =>
      obtain ⟨v, rs, e1, h1, v2, rs2, e2, h2, h3⟩ := r
      cases e1
      cases e2
      exact ⟨e :: d :: ds, .swap d e ds, _, _, rfl, h2, _, _, rfl, h1, h3⟩
    | [_], r =>
      obtain ⟨v, rs, e1, h1, h2⟩ := r
      cases e1
      cases h2
    | [], r => cases r
  | trans p q ih1 ih2 =>
    intro ds r
    obtain ⟨es, h1, h2⟩ := ih2 r
    obtain ⟨fs, h3, h4⟩ := ih1 h2
    exact ⟨fs, h3.trans h1, h4⟩
mutual
theorem D.ok_mono : ∀ {n : Nat} {d : D}, d.ok n → d.ok (n + 1)
  | _, .non, _ => by simp only [D.ok]
  | _, .bl _, _ => by simp only [D.ok]
  | _, .int _, _ => by simp only [D.ok]
  | _, .str _, k => ok_str (strOk_of k)
  | _, .dic, k => by simp only [D.ok] at k
  | 0, .lst _, k => k.elim
  | 0, .tup _, k => k.elim
  | n + 1, .lst xs, k => oks_mono (n := n) (ds := xs) k
  | n + 1, .tup xs, k => oks_mono (n := n) (ds := xs) k
theorem oks_mono : ∀ {n : Nat} {ds : List D}, oks n ds → oks (n + 1) ds
  | _, [], _ => trivial
  | _, _ :: _, k => ⟨D.ok_mono k.1, oks_mono k.2⟩
end
theorem D.ok_le {d : D} {n m : Nat} (h : d.ok n) (hm : n ≤ m) : d.ok m := by
  induction hm with
  | refl => exact h
  | step _ ih => exact D.ok_mono ih
theorem tSeq_two {t1 t2 : TS} {D : Ends} {σ : L2.St} {H : Hp} (R : L2.St → Hp → Prop) (h : ∀ D' : Ends, (∀ σ H, R σ H → D'.nx σ H) → t1 D' σ H) (k : ∀ σ H, R σ H → t2 D σ H) : tSeq t1 t2 D σ H := h { D with nx := t2 D } k
mutual
/-- the same data, its sequences of either kind -/
def Loose : D → D → Prop
  | .lst xs, e => ∃ ys, e.items? = some ys ∧ Looses xs ys
  | .tup xs, e => ∃ ys, e.items? = some ys ∧ Looses xs ys
  | d, e => e = d
def Looses : List D → List D → Prop
  | [], ys => ys = []
  | x :: xs, ys => ∃ y r, ys = y :: r ∧ Loose x y ∧ Looses xs r
end
theorem Looses.snoc : ∀ {xs ys : List D} {x y : D}, Looses xs ys → Loose x y → Looses (xs ++ [x]) (ys ++ [y])
  | [], _, x, y, h, k => by cases h; exact ⟨y, [], rfl, k, rfl⟩
  | _ :: _, _, x, y, h, k => by
    obtain ⟨z, r, rfl, h1, h2⟩ := h
    exact ⟨z, r ++ [y], rfl, h1, Looses.snoc h2 k⟩
theorem Looses.length : ∀ {xs ys : List D}, Looses xs ys → ys.length = xs.length
  | [], _, h => by cases h; rfl
  | _ :: _, _, h => by
    obtain ⟨y, r, rfl, _, h2⟩ := h
    rw [List.length_cons, List.length_cons, Looses.length h2]
mutual
def D.sz : D → Nat
  | .lst xs => szs xs + 1
  | .tup xs => szs xs + 1
  | _ => 1
def szs : List D → Nat
  | [] => 0
  | x :: xs => x.sz + szs xs
end
theorem szs_snoc : ∀ (xs : List D) (x : D), szs (xs ++ [x]) = szs xs + x.sz
  | [], x => by show x.sz + 0 = 0 + x.sz; omega
  | y :: xs, x => by
    show y.sz + szs (xs ++ [x]) = y.sz + szs xs + x.sz
    rw [szs_snoc xs x]
    omega
theorem D.sz_pos : ∀ d : D, 1 ≤ d.sz
  | .lst _ => Nat.succ_le_succ (Nat.zero_le _)
  | .tup _ => Nat.succ_le_succ (Nat.zero_le _)
  | .non | .bl _ | .int _ | .str _ | .dic => Nat.le_refl _
theorem szs_len : ∀ xs : List D, xs.length ≤ szs xs
  | [] => Nat.le_refl _
  | x :: xs => by
    show xs.length + 1 ≤ x.sz + szs xs
    have := x.sz_pos
    have := szs_len xs
    omega
theorem szs_take : ∀ (xs : List D) (i : Nat), szs (xs.take i) ≤ szs xs
  | [], i => by rw [List.take_nil]; exact Nat.le_refl _
  | x :: xs, 0 => Nat.zero_le _
  | x :: xs, i + 1 => by
    show x.sz + szs (xs.take i) ≤ x.sz + szs xs
    have := szs_take xs i
    omega
theorem D.sz_items {d : D} {ds : List D} (h : d.items? = some ds) : d.sz = szs ds + 1 := by
  cases d with
  | lst xs => cases (show some xs = some ds from h); rfl
  | tup xs => cases (show some xs = some ds from h); rfl
  | _ => cases h
theorem Loose.of_items {d e : D} {ds es : List D} (h : d.items? = some ds) (k : e.items? = some es) (l : Looses ds es) : Loose d e := by
  cases d with
  | lst xs => cases (show some xs = some ds from h); exact ⟨es, k, l⟩
  | tup xs => cases (show some xs = some ds from h); exact ⟨es, k, l⟩
  | _ => cases h
theorem D.ok_items {n : Nat} {d : D} {ds : List D} (h : d.items? = some ds) (k : d.ok n) : ∃ j, n = j + 1 ∧ oks j ds := by
  cases n with
  | zero =>
    cases d with
    | lst xs => exact k.elim
    | tup xs => exact k.elim
    | _ => cases h
  | succ j =>
    cases d with
    | lst xs => cases (show some xs = some ds from h); exact ⟨j, rfl, k⟩
    | tup xs => cases (show some xs = some ds from h); exact ⟨j, rfl, k⟩
    | _ => cases h
/-- a comprehension over a list or a tuple -/
theorem lc_seqG {K : PySem.W.Frag} {a : Addr} {xs : List V} {H1 : Hp} {g : TG} {tt : TT} {te : TE} {vs : List Nat} {σ : L2.St} {Qd : Addr → Hp → Prop} (hq : SqL K H1 a xs ∨ SqT K H1 a xs)
    (Pv : Addr → Nat → Hp → Prop) (h0 : ∀ D, H1 D = none → Pv D 0 (upd H1 D (.lst []))) (hL : ∀ D i H', Pv D i H' → SqL K H1 a xs → SqL K H' a xs) (hT : ∀ D i H', Pv D i H' → SqT K H1 a xs → SqT K H' a xs)
    (hs : ∀ D, H1 D = none → ∀ i x H, xs[i]? = some x → Pv D i H → g x (wipe σ vs) H fun σ2 H2 => wipe σ2 vs = wipe σ vs ∧ tt σ2 H2 fun b H3 =>
      if b = true then te σ2 H3 fun y H4 => ∃ acc, H4 D = some (.lst acc) ∧ acc.length < sizeLine ∧ Pv D (i + 1) (upd H4 D (.lst (acc ++ [y]))) else Pv D (i + 1) H3) (hd : ∀ D, H1 D = none → ∀ H, Pv D xs.length H → Qd D H) :
    ((∃ xs, SqL K H1 a xs) ∧ (fun (J : It) (H1 : Hp) => ∀ D, H1 D = none → ∃ W : Nat → Nat → Hp → Prop, (∃ m, W 0 m (upd H1 D (.lst []))) ∧ ∀ i m H, W i m H →
      (J.stop i H ∧ Qd D H) ∨ (J.go i H ∧ ∃ Nx : Hp → Prop, (∀ H', Nx H' → ∃ m', m' < m ∧ W (i + 1) m' H') ∧ ∀ x H', J.yld i H x H' → g x (wipe σ vs) H' fun σ2 H2 => wipe σ2 vs = wipe σ vs ∧ tt σ2 H2 fun b H3 =>
        if b = true then te σ2 H3 fun y H4 => ∃ acc, H4 D = some (.lst acc) ∧ acc.length < sizeLine ∧ Nx (upd H4 D (.lst (acc ++ [y]))) else Nx H3)) (Itl K a) H1) ∨ ((∃ xs, SqT K H1 a xs) ∧ (fun (J : It) (H1 : Hp) => ∀ D, H1 D = none → ∃ W : Nat → Nat → Hp → Prop, (∃ m, W 0 m (upd H1 D (.lst []))) ∧ ∀ i m H, W i m H →
      (J.stop i H ∧ Qd D H) ∨ (J.go i H ∧ ∃ Nx : Hp → Prop, (∀ H', Nx H' → ∃ m', m' < m ∧ W (i + 1) m' H') ∧ ∀ x H', J.yld i H x H' → g x (wipe σ vs) H' fun σ2 H2 => wipe σ2 vs = wipe σ vs ∧ tt σ2 H2 fun b H3 =>
        if b = true then te σ2 H3 fun y H4 => ∃ acc, H4 D = some (.lst acc) ∧ acc.length < sizeLine ∧ Nx (upd H4 D (.lst (acc ++ [y]))) else Nx H3)) (Itt K a) H1) := by
  rcases hq with hq | hq
  · refine .inl ⟨⟨xs, hq⟩, fun D hD => lc_it walk_list (Pv D) (h0 D hD) (fun i H' _ p => hL D i H' p hq) (fun i x H' H2 hi p y => ?_) (hd D hD)⟩
    obtain ⟨rfl, hx⟩ := y
    exact hs D hD i x _ hx p
  · refine .inr ⟨⟨xs, hq⟩, fun D hD => lc_it walk_tup (Pv D) (h0 D hD) (fun i H' _ p => hT D i H' p hq) (fun i x H' H2 hi p y => ?_) (hd D hD)⟩
    obtain ⟨rfl, hx⟩ := y
    exact hs D hD i x _ hx p
theorem leaf_of {d : D} (h : d.items? = none) : d.free ∧ Loose d d := by
  cases d with
  | lst xs => cases h
  | tup xs => cases h
  | _ => exact ⟨trivial, rfl⟩
theorem Rep.ne {S : Addr → Prop} {H : Hp} {d : D} {l a : Addr} {u : List V} {ds : List D} (h : Rep S H d (.ref l)) (e : d.items? = some ds) (hu : H a = some (.lst u)) (n : ¬ S a) : l ≠ a := by
  cases d with
  | lst xs =>
    obtain ⟨b, vs, e1, sb, _⟩ := h
    cases e1
    exact fun z => n (z ▸ sb)
  | tup xs =>
    obtain ⟨b, vs, e1, hb, _⟩ := h
    cases e1
    exact fun z => by rw [z, hu] at hb; cases hb
  | _ => cases e
theorem SameS.seqT {K : PySem.W.Frag} {s l : Addr} {H H' : Hp} {xs : List V} (h : SameS s H H') (n : l ≠ s) (q : SqT K H l xs) : SqT K H' l xs := by
  rcases q with (q | ⟨o, q⟩) | q
  · exact .inl (.inl (h l _ n q))
  · exact .inl (.inr ⟨o, h l _ n q⟩)
  · exact .inr q
end Q1
set_option Elab.async false
set_option linter.all false
set_option maxRecDepth 100000
set_option maxHeartbeats 4000000
namespace Q1
open PySem L2 LamX
theorem walk_zipT' {K : PySem.W.Frag} {a b : Addr} {xs ys : List V} (hn : ys.length = xs.length) : Walk (RZ.ItzT K a b) xs.length (fun H => SqT K H a xs ∧ SqT K H b ys) (YPair (fun i => xs[i]?) (fun i => ys[i]?)) := by
  refine ⟨fun i _ hi q => ⟨xs, ys, xs[i], ys[i]'(by omega), q.1, q.2, by simp, by simp⟩, fun _ q => ⟨xs, ys, q.1, q.2, .inl (Nat.le_refl _)⟩, fun i H v H' _ q y => ?_⟩
  obtain ⟨T, x, z, h1, h2, h3, h4, h5⟩ := y
  exact ⟨T, x, z, h1, h2, h3, h4 xs q.1, h5 ys q.2⟩
theorem seqT_same {K : PySem.W.Frag} {l : Addr} {H H' : Hp} {xs : List V} (h : Same H H') (q : SqT K H l xs) : SqT K H' l xs := by
  rcases q with (q | ⟨o, q⟩) | q
  · exact .inl (.inl (h l _ q))
  · exact .inl (.inr ⟨o, h l _ q⟩)
  · exact .inr q
mutual
theorem eqv_refl : ∀ {n : Nat} {d : D}, d.ok n → PyData.eqv d.py d.py = true
  | _, .non, _ => rfl
  | _, .bl b, _ => by show (b == b) = true; exact beq_self_eq_true b
  | _, .int i, _ => by show (i == i) = true; exact beq_self_eq_true i
  | _, .str s, _ => by show (s == s) = true; exact beq_self_eq_true s
  | _, .dic, k => by simp only [D.ok] at k
  | 0, .lst _, k => k.elim
  | 0, .tup _, k => k.elim
  | n + 1, .lst xs, k => eqvAll_refl (n := n) (ds := xs) k
  | n + 1, .tup xs, k => eqvAll_refl (n := n) (ds := xs) k
theorem eqvAll_refl : ∀ {n : Nat} {ds : List D}, oks n ds → PyData.eqvAll (pys ds) (pys ds) = true
  | _, [], _ => rfl
  | _, d :: ds, k => by
    show (PyData.eqv d.py d.py && PyData.eqvAll (pys ds) (pys ds)) = true
    rw [eqv_refl k.1, eqvAll_refl k.2]
    rfl
end
theorem kit_three {K : PySem.W.Frag} (d : D) : PySem.W.kitAny K (.type d.ty) [.type "dict", .type "list", .type "tuple"] = some (d.isDic || (d.isLst || d.isTup)) := by
  unfold PySem.W.kitAny
  rw [kit_dic]
  cases d.isDic with
  | true => rfl
  | false =>
    show PySem.W.kitAny K _ [.type "list", .type "tuple"] = _
    unfold PySem.W.kitAny
    rw [kit_lst]
    cases d.isLst with
    | true => rfl
    | false =>
      show PySem.W.kitAny K _ [.type "tuple"] = _
      unfold PySem.W.kitAny
      rw [kit_tup]
      cases d.isTup <;> rfl
mutual
/-- data that the law's likeness goes through: empty dicts too -/
def D.okd : Nat → D → Prop
  | _, .str x => PyData.strOk x = true
  | 0, .lst _ => False
  | 0, .tup _ => False
  | n + 1, .lst xs => okds n xs
  | n + 1, .tup xs => okds n xs
  | n + 2, .dic => True
  | 1, .dic => False
  | 0, .dic => False
  | _, .non => True
  | _, .bl _ => True
  | _, .int _ => True
def okds : Nat → List D → Prop
  | _, [] => True
  | n, x :: xs => x.okd n ∧ okds n xs
end
theorem okds_all : ∀ {n : Nat} {ds : List D}, okds n ds → ∀ d ∈ ds, d.okd n
  | _, [], _, d, h => by simp at h
  | _, x :: xs, k, d, h => by
    rcases List.mem_cons.mp h with rfl | h
    · exact k.1
    · exact okds_all k.2 d h
theorem okds_mem : ∀ {n : Nat} {ds : List D}, (∀ d ∈ ds, d.okd n) → okds n ds
  | _, [], _ => trivial
  | _, x :: xs, h => ⟨h x List.mem_cons_self, okds_mem fun d hd => h d (List.mem_cons_of_mem _ hd)⟩
mutual
theorem okd_of : ∀ {n : Nat} {d : D}, d.ok n → d.okd n
  | n, .str x, h => by cases n <;> simpa only [D.okd] using strOk_of h
  | 0, .lst _, h => h.elim
  | 0, .tup _, h => h.elim
  | n + 1, .lst xs, h => okds_of (n := n) (ds := xs) h
  | n + 1, .tup xs, h => okds_of (n := n) (ds := xs) h
  | _, .dic, h => by simp only [D.ok] at h
  | n, .non, _ => by cases n <;> simp only [D.okd]
  | n, .bl _, _ => by cases n <;> simp only [D.okd]
  | n, .int _, _ => by cases n <;> simp only [D.okd]
theorem okds_of : ∀ {n : Nat} {ds : List D}, oks n ds → okds n ds
  | _, [], _ => trivial
  | _, _ :: _, h => ⟨okd_of h.1, okds_of h.2⟩
end
theorem okd_items {n : Nat} {d : D} {ds : List D} (h : d.items? = some ds) (k : d.okd n) : ∃ j, n = j + 1 ∧ okds j ds := by
  cases d with
  | lst xs =>
    cases h
    cases n with
    | zero => exact k.elim
    | succ j => exact ⟨j, rfl, k⟩
  | tup xs =>
    cases h
    cases n with
    | zero => exact k.elim
    | succ j => exact ⟨j, rfl, k⟩
  | _ => cases h
theorem szs_mem : ∀ {ds : List D} {d : D}, d ∈ ds → d.sz ≤ szs ds
  | [], _, h => by simp at h
  | x :: ds, d, h => by
    show d.sz ≤ x.sz + szs ds
    rcases List.mem_cons.mp h with rfl | h
    · omega
    · have := szs_mem h
      omega
theorem leaf_okd {n : Nat} {d : D} (h : d.items? = none) (hd : d.isDic = false) (k : d.okd n) : d.ok 0 := by
  cases d with
  | lst xs => cases h
  | tup xs => cases h
  | dic => cases hd
  | str s => exact ok_str (by cases n <;> simpa only [D.okd] using k)
  | non => simp only [D.ok]
  | bl b => simp only [D.ok]
  | int i => simp only [D.ok]
/-- what is never come to -/
theorem pss_never {X : Cx} {st : List Stmt} : PSs X st (fun _ _ _ => False) := ⟨fun _ _ _ _ _ _ h => h.elim⟩
section
variable {P : Program} {w : World} {K : PySem.W.Frag} {mg : Str → Option Value} {base : Heap}
/-! ### _law_same -/
abbrev sSame : Stmt := top 39
abbrev nSame : List Str := ["found", "due", "one", "other"]
theorem scSame : FnScope nSame ["found", "due"] (defScope sSame) := ⟨rfl, rfl, rfl, by decide +kernel, rfl, by decide +kernel, by decide +kernel⟩
def spSame : Nat → Sp
  | 0 => fun _ _ _ _ => False
  | n + 1 => fun vs H Q _ => ∃ (S S2 : Addr → Prop) (d : D) (v u : V), vs = [v, u] ∧ Rep S H d v ∧ Rep S2 H d u ∧ d.okd n ∧ d.sz ≤ 1000000 ∧ ∀ H', Same H H' → Q (.bl true) H'
theorem ok_same (B : Bt mg) (N : Dn K mg "_law_same" sSame ["found", "due"]) : ∀ n, FnOk P w K mg base CX0 (n + 1) N.f N.fd ["found", "due"] (spSame n)
  | 0 => ⟨fun vs H Q E h => h.elim, fun A outer s H args us vs Q E hr he hb hv hs => hs.elim⟩
  | n + 1 => by
    have GR : FnOk P w K mg base CX0 (n + 1) N.f N.fd ["found", "due"] (spSame n) := ok_same B N n
    refine N.F.ok scSame (fun vs H Q E h => ?_) (fun cdv A outer s H vs Q E hr h => ?_)
    · obtain ⟨S, S2, d, v, u, rfl, _⟩ := h
      rfl
    · obtain ⟨S, S2, d, v, u, rfl, hv, hu, hok, hsz, k⟩ := h
      refine ⟨_, pss_cons (ps_if (pt_val (pe_callB call_isi (by rfl) B.isi PyProof.Rows.boot_isinstance (pa_cons (pv 1) (pa_cons (gt B.dict PyProof.Rows.boot_dict) pa_nil))) (fun _ => rfl))
          (pss_one (ps_ret (pe_and (pe_callB call_isi (by rfl) B.isi PyProof.Rows.boot_isinstance (pa_cons (pv 0) (pa_cons (gt B.dict PyProof.Rows.boot_dict) pa_nil)))
            (pe_one (pe_call GR hr (by rfl) N.g N.F.kp N.b .nil pass0 (pa_cons (LiI.pe_listItems rfl (pv 0) (by rfl) B.lst PyProof.Rows.boot_list) (pa_cons (LiI.pe_listItems rfl (pv 1) (by rfl) B.lst PyProof.Rows.boot_list) pa_nil))))))) pss_nil)
        (pss_cons (ps_if (pt_val (pe_callB call_isiT (by rfl) B.isi PyProof.Rows.boot_isinstance (pa_cons (pv 1) (pa_cons (pe_tup (pa_cons (gt B.lst PyProof.Rows.boot_list) (pa_cons (gt B.tup PyProof.Rows.boot_tuple) pa_nil))) pa_nil))) (fun _ => rfl))
          (pss_cons (ps_if (PW.pt (pw_or (pt_cmpR op_ne (pe_callB call_isi (by rfl) B.isi PyProof.Rows.boot_isinstance (pa_cons (pv 0) (pa_cons (gt B.lst PyProof.Rows.boot_list) pa_nil))) (pe_callB call_isi (by rfl) B.isi PyProof.Rows.boot_isinstance (pa_cons (pv 1) (pa_cons (gt B.lst PyProof.Rows.boot_list) pa_nil))) (nomark _))
              (pw_or1 (pt_cmpR op_ne (pe_callB call_isi (by rfl) B.isi PyProof.Rows.boot_isinstance (pa_cons (pv 0) (pa_cons (gt B.tup PyProof.Rows.boot_tuple) pa_nil))) (pe_callB call_isi (by rfl) B.isi PyProof.Rows.boot_isinstance (pa_cons (pv 1) (pa_cons (gt B.tup PyProof.Rows.boot_tuple) pa_nil))) (nomark _))))) pss_never pss_nil)
          (pss_one (ps_ret (pe_and (pe_cmpR op_eq (pe_callB call_len_seq (by rfl) B.len boot_len (pa_cons (pv 0) pa_nil)) (pe_callB call_len_seq (by rfl) B.len boot_len (pa_cons (pv 1) pa_nil)) (nomark _))
            (pe_one (pe_callB (cr_all rfl) (by rfl) B.all PyProof.Rows.boot_all (pa_cons
              (pe_lc (own := [("one", 2), ("other", 3)]) (g := gTup K 2 (gCons (gName 2) (gCons (gName 3) gNil))) (tt := tYes) (te := tCall (spSame n) [] E0 (tCons (tVar 2) (tCons (tVar 3) tNil))) rfl scSame.nd (RZ.pi_zipA (by rfl) B.zip (pa_cons (pv 0) (pa_cons (pv 1) pa_nil))) (blkOk_by (own := [("one", 2), ("other", 3)]) (N := nSame) (sc := defScope sSame) (by decide +kernel))
                (fun _ _ _ _ _ => pg_tup (by rfl) (pgs_cons (pg_name (i := 2) scSame.nd (by rfl) (Or.inl (by rfl)) (by exact .inr rfl)) (pgs_cons (pg_name (i := 3) scSame.nd (by rfl) (Or.inl (by rfl)) (by exact .inr rfl)) pgs_nil))) (fun _ _ _ _ _ => pts_nil)
                (fun _ _ _ _ _ => pe_call GR hr (by rfl) N.g N.F.kp N.b .nil pass0 (pa_cons (pv 2) (pa_cons (pv 3) pa_nil)))) pa_nil))))))) pss_nil)
        (pss_cons (ps_if (PW.pt (pw_or (pt_val (pe_callB call_isiT (by rfl) B.isi PyProof.Rows.boot_isinstance (pa_cons (pv 0) (pa_cons (pe_tup (pa_cons (gt B.dict PyProof.Rows.boot_dict) (pa_cons (gt B.lst PyProof.Rows.boot_list) (pa_cons (gt B.tup PyProof.Rows.boot_tuple) pa_nil)))) pa_nil))) (fun _ => rfl))
            (pw_or1 (pt_cmpR op_ne (pe_callB call_isi (by rfl) B.isi PyProof.Rows.boot_isinstance (pa_cons (pv 0) (pa_cons (gt B.bool PyProof.Rows.boot_bool) pa_nil))) (pe_callB call_isi (by rfl) B.isi PyProof.Rows.boot_isinstance (pa_cons (pv 1) (pa_cons (gt B.bool PyProof.Rows.boot_bool) pa_nil))) (nomark _))))) pss_never pss_nil)
        (pss_one (ps_ret (pe_cmpR (op_eqD hr.units) (pv 0) (pv 1) (nomark _)))))), ?_⟩
      refine ⟨_, rfl, _, .ty "dict", _, _, _, rfl, .ty "dict", hu.ty (K := K), kit_dic d, _, rfl, ?_⟩
      cases hdi : d.isDic with
      | true =>
        cases d with
        | dic =>
          have tv := hv.ty (K := K)
          obtain ⟨a, rfl, ha⟩ := hv
          obtain ⟨b, rfl, hb⟩ := hu
          obtain ⟨m, rfl⟩ : ∃ m, n = m + 2 := by
            match n, hok with
            | n + 2, _ => exact ⟨n, rfl⟩
            | 1, h => simp only [D.okd] at h
            | 0, h => simp only [D.okd] at h
          refine iteT ?_
          refine ⟨_, rfl, _, .ty "dict", _, _, _, rfl, .ty "dict", tv, kit_dic .dic, _, rfl, ?_⟩
          refine iteT ?_
          refine ⟨_, rfl, a, [], rfl, ha, fun H1 p ts e1 n1 nt1 np1 hp1 pr1 => ?_⟩
          have hts : ts = [] := by cases pr1; rfl
          subst hts
          refine ⟨_, rfl, b, [], rfl, e1 _ _ hb, fun H2 q us e2 n2 nt2 nq2 hq2 pr2 => ?_⟩
          have hus : us = [] := by cases pr2; rfl
          subst hus
          exact ⟨fun _ => True, fun _ => True, .lst [], _, _, rfl, ⟨p, [], rfl, trivial, e2 _ _ hp1, rfl⟩, ⟨q, [], rfl, trivial, hq2, rfl⟩, trivial, by show 1 ≤ 1000000; decide, fun H' s' => k H' (fun x o z => s' _ _ (e2 _ _ (e1 _ _ z)))⟩
        | _ => cases hdi
      | false =>
      refine iteF ?_
      refine ⟨_, rfl, by show 2 ≤ sizeLine; decide, fun p hp => ?_⟩
      have s1 : Same H (upd H p (.tup [.ty "list", .ty "tuple"])) := Same.new hp
      have hp1 : upd H p (.tup [.ty "list", .ty "tuple"]) p = some (.tup [.ty "list", .ty "tuple"]) := upd_same
      generalize upd H p (.tup [.ty "list", .ty "tuple"]) = H1 at s1 hp1 ⊢
      have hv1 := hv.same s1
      have hu1 := hu.same s1
      refine ⟨_, p, _, _, [.type "list", .type "tuple"], _, rfl, hp1, .cons (.ty "list") (.cons (.ty "tuple") .nil), hu1.ty, kit_list d, _, rfl, ?_⟩
      cases d with
      | lst xs =>
        obtain ⟨j, rfl, hxs⟩ := okd_items (d := D.lst xs) (ds := xs) rfl hok
        have hsz2 : (D.lst xs).sz = szs xs + 1 := rfl
        have tv := hv1.ty (K := K)
        have tu := hu1.ty (K := K)
        obtain ⟨l, us, rfl, _, hl, rr⟩ := hv1
        obtain ⟨l2, us2, rfl, _, hl2, rr2⟩ := hu1
        have e1 := rr.length
        have e2 := rr2.length
        have hxl := szs_len xs
        refine iteT ?_
        refine ⟨_, rfl, _, .ty "list", _, _, _, rfl, .ty "list", tv, kit_lst (.lst xs), _, rfl, _, .ty "list", _, _, _, rfl, .ty "list", tu, kit_lst (.lst xs), rfl, _, rfl, ?_⟩
        refine iteF ?_
        refine ⟨_, rfl, _, .ty "tuple", _, _, _, rfl, .ty "tuple", tv, kit_tup (.lst xs), _, rfl, _, .ty "tuple", _, _, _, rfl, .ty "tuple", tu, kit_tup (.lst xs), rfl, _, rfl, ?_⟩
        refine iteF ?_
        refine ⟨_, rfl, l, us, rfl, .inl (SqL.of hl), _, rfl, l2, us2, rfl, .inl (SqL.of hl2), rfl, _, rfl, ?_⟩
        rw [e1, e2]
        refine ite2 (fun _ => ?_) (fun h => absurd (decide_eq_true rfl) h)
        refine ⟨_, rfl, _, rfl, l, l2, us, us2, rfl, .inl ⟨SqL.of hl, SqL.of hl2, fun D0 hD => lc_it (walk_zip (n := us.length) (by omega)) (fun i H' => Same H1 H' ∧ H' D0 = some (.lst ((List.replicate i true).map V.bl))) ⟨Same.new hD, upd_same⟩ (fun i H' _ x => ⟨SqL.of (x.1 _ _ hl), SqL.of (x.1 _ _ hl2)⟩) ?_ ?_⟩⟩
        · rintro i x H' H2 hi ⟨sm', hz⟩ ⟨T0, v1, v2, rfl, hT0, rfl, hv1, hv2⟩
          obtain ⟨dx, hdx, r1⟩ := (rr.same sm').get hv1
          obtain ⟨dy, hdy, r2⟩ := (rr2.same sm').get hv2
          rw [hdx] at hdy
          cases hdy
          have sT : Same H' (upd H' T0 (.tup [v1, v2])) := Same.new hT0
          have hm := List.mem_of_getElem? hdx
          have := szs_mem hm
          refine ⟨T0, _, rfl, SqT.of upd_same, rfl, ?_⟩
          refine ⟨_, _, rfl, _, _, rfl, rfl, ?_⟩
          refine ⟨rfl, ?_⟩
          refine ⟨_, rfl, _, rfl, S, S2, dx, v1, v2, rfl, r1.same sT, r2.same sT, okds_all hxs dx hm, by omega, fun H3 s3 => ⟨_, s3 _ _ (sT _ _ hz), ?_, Same.at ((sm'.trans sT).trans s3) hD, ?_⟩⟩
          · rw [List.length_map, List.length_replicate]
            exact Nat.lt_of_lt_of_le (show i < 1000001 by omega) (by decide)
          · rw [upd_same, List.replicate_succ', List.map_append]
            rfl
        · rintro H' ⟨sm', hz⟩
          refine ⟨D0, _, rfl, SqL.of hz, ?_⟩
          rw [show ((List.replicate us.length true).all id) = true from List.all_eq_true.mpr fun b hb => (List.mem_replicate.mp hb).2]
          exact k H' (s1.trans sm')
      | tup xs =>
        obtain ⟨j, rfl, hxs⟩ := okd_items (d := D.tup xs) (ds := xs) rfl hok
        have hsz2 : (D.tup xs).sz = szs xs + 1 := rfl
        have tv := hv1.ty (K := K)
        have tu := hu1.ty (K := K)
        obtain ⟨l, us, rfl, hl, rr⟩ := hv1
        obtain ⟨l2, us2, rfl, hl2, rr2⟩ := hu1
        have e1 := rr.length
        have e2 := rr2.length
        have hxl := szs_len xs
        refine iteT ?_
        refine ⟨_, rfl, _, .ty "list", _, _, _, rfl, .ty "list", tv, kit_lst (.tup xs), _, rfl, _, .ty "list", _, _, _, rfl, .ty "list", tu, kit_lst (.tup xs), rfl, _, rfl, ?_⟩
        refine iteF ?_
        refine ⟨_, rfl, _, .ty "tuple", _, _, _, rfl, .ty "tuple", tv, kit_tup (.tup xs), _, rfl, _, .ty "tuple", _, _, _, rfl, .ty "tuple", tu, kit_tup (.tup xs), rfl, _, rfl, ?_⟩
        refine iteF ?_
        refine ⟨_, rfl, l, us, rfl, .inr (SqT.of hl), _, rfl, l2, us2, rfl, .inr (SqT.of hl2), rfl, _, rfl, ?_⟩
        rw [e1, e2]
        refine ite2 (fun _ => ?_) (fun h => absurd (decide_eq_true rfl) h)
        refine ⟨_, rfl, _, rfl, l, l2, us, us2, rfl, .inr ⟨SqT.of hl, SqT.of hl2, fun D0 hD => lc_it (walk_zipT' (K := K) (by omega)) (fun i H' => Same H1 H' ∧ H' D0 = some (.lst ((List.replicate i true).map V.bl))) ⟨Same.new hD, upd_same⟩ (fun i H' _ x => ⟨SqT.of (x.1 _ _ hl), SqT.of (x.1 _ _ hl2)⟩) ?_ ?_⟩⟩
        · rintro i x H' H2 hi ⟨sm', hz⟩ ⟨T0, v1, v2, rfl, hT0, rfl, hv1, hv2⟩
          obtain ⟨dx, hdx, r1⟩ := (rr.same sm').get hv1
          obtain ⟨dy, hdy, r2⟩ := (rr2.same sm').get hv2
          rw [hdx] at hdy
          cases hdy
          have sT : Same H' (upd H' T0 (.tup [v1, v2])) := Same.new hT0
          have hm := List.mem_of_getElem? hdx
          have := szs_mem hm
          refine ⟨T0, _, rfl, SqT.of upd_same, rfl, ?_⟩
          refine ⟨_, _, rfl, _, _, rfl, rfl, ?_⟩
          refine ⟨rfl, ?_⟩
          refine ⟨_, rfl, _, rfl, S, S2, dx, v1, v2, rfl, r1.same sT, r2.same sT, okds_all hxs dx hm, by omega, fun H3 s3 => ⟨_, s3 _ _ (sT _ _ hz), ?_, Same.at ((sm'.trans sT).trans s3) hD, ?_⟩⟩
          · rw [List.length_map, List.length_replicate]
            exact Nat.lt_of_lt_of_le (show i < 1000001 by omega) (by decide)
          · rw [upd_same, List.replicate_succ', List.map_append]
            rfl
        · rintro H' ⟨sm', hz⟩
          refine ⟨D0, _, rfl, SqL.of hz, ?_⟩
          rw [show ((List.replicate us.length true).all id) = true from List.all_eq_true.mpr fun b hb => (List.mem_replicate.mp hb).2]
          exact k H' (s1.trans sm')
      | bl b =>
        have hok0 : D.ok 0 ((.bl b) : D) := leaf_okd rfl rfl hok
        refine iteF ?_
        refine ⟨_, rfl, by show 3 ≤ sizeLine; decide, fun p2 hp2 => ?_⟩
        have s2 : Same H1 (upd H1 p2 (.tup [.ty "dict", .ty "list", .ty "tuple"])) := Same.new hp2
        have hp3 : upd H1 p2 (.tup [.ty "dict", .ty "list", .ty "tuple"]) p2 = some (.tup [.ty "dict", .ty "list", .ty "tuple"]) := upd_same
        generalize upd H1 p2 (.tup [.ty "dict", .ty "list", .ty "tuple"]) = H2 at s2 hp3 ⊢
        have hv2 := hv1.same s2
        have hu2 := hu1.same s2
        refine ⟨_, p2, _, _, [.type "dict", .type "list", .type "tuple"], _, rfl, hp3, .cons (.ty "dict") (.cons (.ty "list") (.cons (.ty "tuple") .nil)), hv2.ty (K := K), kit_three (.bl b), _, rfl, ?_⟩
        refine iteF ?_
        refine ⟨_, rfl, _, .ty "bool", _, _, _, rfl, .ty "bool", hv2.ty (K := K), kit_bool (.bl b), _, rfl, _, .ty "bool", _, _, _, rfl, .ty "bool", hu2.ty (K := K), kit_bool (.bl b), rfl, _, rfl, ?_⟩
        refine iteF ?_
        refine ⟨_, rfl, _, rfl, D.py (.bl b), D.py (.bl b), hv2.dp hok0, hu2.dp hok0, D.ok_shaped hok0 (by decide), D.ok_shaped hok0 (by decide), ?_⟩
        rw [eqv_refl hok0]
        exact k H2 (s1.trans s2)
      | int i =>
        have hok0 : D.ok 0 ((.int i) : D) := leaf_okd rfl rfl hok
        refine iteF ?_
        refine ⟨_, rfl, by show 3 ≤ sizeLine; decide, fun p2 hp2 => ?_⟩
        have s2 : Same H1 (upd H1 p2 (.tup [.ty "dict", .ty "list", .ty "tuple"])) := Same.new hp2
        have hp3 : upd H1 p2 (.tup [.ty "dict", .ty "list", .ty "tuple"]) p2 = some (.tup [.ty "dict", .ty "list", .ty "tuple"]) := upd_same
        generalize upd H1 p2 (.tup [.ty "dict", .ty "list", .ty "tuple"]) = H2 at s2 hp3 ⊢
        have hv2 := hv1.same s2
        have hu2 := hu1.same s2
        refine ⟨_, p2, _, _, [.type "dict", .type "list", .type "tuple"], _, rfl, hp3, .cons (.ty "dict") (.cons (.ty "list") (.cons (.ty "tuple") .nil)), hv2.ty (K := K), kit_three (.int i), _, rfl, ?_⟩
        refine iteF ?_
        refine ⟨_, rfl, _, .ty "bool", _, _, _, rfl, .ty "bool", hv2.ty (K := K), kit_bool (.int i), _, rfl, _, .ty "bool", _, _, _, rfl, .ty "bool", hu2.ty (K := K), kit_bool (.int i), rfl, _, rfl, ?_⟩
        refine iteF ?_
        refine ⟨_, rfl, _, rfl, D.py (.int i), D.py (.int i), hv2.dp hok0, hu2.dp hok0, D.ok_shaped hok0 (by decide), D.ok_shaped hok0 (by decide), ?_⟩
        rw [eqv_refl hok0]
        exact k H2 (s1.trans s2)
      | non =>
        have hok0 : D.ok 0 (.non : D) := leaf_okd rfl rfl hok
        refine iteF ?_
        refine ⟨_, rfl, by show 3 ≤ sizeLine; decide, fun p2 hp2 => ?_⟩
        have s2 : Same H1 (upd H1 p2 (.tup [.ty "dict", .ty "list", .ty "tuple"])) := Same.new hp2
        have hp3 : upd H1 p2 (.tup [.ty "dict", .ty "list", .ty "tuple"]) p2 = some (.tup [.ty "dict", .ty "list", .ty "tuple"]) := upd_same
        generalize upd H1 p2 (.tup [.ty "dict", .ty "list", .ty "tuple"]) = H2 at s2 hp3 ⊢
        have hv2 := hv1.same s2
        have hu2 := hu1.same s2
        refine ⟨_, p2, _, _, [.type "dict", .type "list", .type "tuple"], _, rfl, hp3, .cons (.ty "dict") (.cons (.ty "list") (.cons (.ty "tuple") .nil)), hv2.ty (K := K), kit_three .non, _, rfl, ?_⟩
        refine iteF ?_
        refine ⟨_, rfl, _, .ty "bool", _, _, _, rfl, .ty "bool", hv2.ty (K := K), kit_bool .non, _, rfl, _, .ty "bool", _, _, _, rfl, .ty "bool", hu2.ty (K := K), kit_bool .non, rfl, _, rfl, ?_⟩
        refine iteF ?_
        refine ⟨_, rfl, _, rfl, D.py .non, D.py .non, hv2.dp hok0, hu2.dp hok0, D.ok_shaped hok0 (by decide), D.ok_shaped hok0 (by decide), ?_⟩
        rw [eqv_refl hok0]
        exact k H2 (s1.trans s2)
      | str z =>
        have hok0 : D.ok 0 ((.str z) : D) := leaf_okd rfl rfl hok
        refine iteF ?_
        refine ⟨_, rfl, by show 3 ≤ sizeLine; decide, fun p2 hp2 => ?_⟩
        have s2 : Same H1 (upd H1 p2 (.tup [.ty "dict", .ty "list", .ty "tuple"])) := Same.new hp2
        have hp3 : upd H1 p2 (.tup [.ty "dict", .ty "list", .ty "tuple"]) p2 = some (.tup [.ty "dict", .ty "list", .ty "tuple"]) := upd_same
        generalize upd H1 p2 (.tup [.ty "dict", .ty "list", .ty "tuple"]) = H2 at s2 hp3 ⊢
        have hv2 := hv1.same s2
        have hu2 := hu1.same s2
        refine ⟨_, p2, _, _, [.type "dict", .type "list", .type "tuple"], _, rfl, hp3, .cons (.ty "dict") (.cons (.ty "list") (.cons (.ty "tuple") .nil)), hv2.ty (K := K), kit_three (.str z), _, rfl, ?_⟩
        refine iteF ?_
        refine ⟨_, rfl, _, .ty "bool", _, _, _, rfl, .ty "bool", hv2.ty (K := K), kit_bool (.str z), _, rfl, _, .ty "bool", _, _, _, rfl, .ty "bool", hu2.ty (K := K), kit_bool (.str z), rfl, _, rfl, ?_⟩
        refine iteF ?_
        refine ⟨_, rfl, _, rfl, D.py (.str z), D.py (.str z), hv2.dp hok0, hu2.dp hok0, D.ok_shaped hok0 (by decide), D.ok_shaped hok0 (by decide), ?_⟩
        rw [eqv_refl hok0]
        exact k H2 (s1.trans s2)
      | dic => cases hdi
end
end Q1
set_option Elab.async false
set_option linter.all false
set_option maxRecDepth 100000
set_option maxHeartbeats 4000000
namespace Q1
open PySem L2 LamX PyProof.Rows
theorem none_back {H H' : Hp} {a : Addr} (s : Same H H') (h : H' a = none) : H a = none := by
  cases q : H a with
  | none => rfl
  | some o => rw [s a o q] at h; cases h
theorem Reps.take {S : Addr → Prop} {H : Hp} : ∀ {ds : List D} {vs : List V} (n : Nat), Reps S H ds vs → Reps S H (ds.take n) (vs.take n)
  | _, _, 0, _ => rfl
  | [], _, n + 1, h => by cases (show _ = [] from h); rfl
  | d :: ds, _, n + 1, h => by
    obtain ⟨v, r, rfl, h1, h2⟩ := h
    exact ⟨v, _, rfl, h1, Reps.take n h2⟩
/-! ### expressions that only make data -/
/-- the expression gives a datum, and changes nothing that stands -/
def MkE (S : Addr → Prop) (t : TE) (σ : L2.St) (H : Hp) (d : D) : Prop := ∀ (H1 : Hp) (Q : VK), Same H H1 → (∀ H2 v, Same H1 H2 → Rep S H2 d v → Q v H2) → t σ H1 Q
def MkA (S : Addr → Prop) (t : TA) (σ : L2.St) (H : Hp) (ds : List D) : Prop := ∀ (H1 : Hp) (Q : List V → Hp → Prop), Same H H1 → (∀ H2 vs, Same H1 H2 → Reps S H2 ds vs → Q vs H2) → t σ H1 Q
section
variable {S : Addr → Prop} {σ : L2.St} {H : Hp} {te tf : TE} {ta : TA} {d e : D} {ds es : List D} {K : PySem.W.Frag}
theorem run_mk {Q : VK} (h : MkE S te σ H d) (k : ∀ H2 v, Same H H2 → Rep S H2 d v → Q v H2) : te σ H Q := h H Q (Same.refl _) k
theorem run_lst {Q : VK} (h : MkA S ta σ H ds) (hl : Nat.ble ds.length 1000 = true) (k : ∀ H2 vs, Same H H2 → Reps S H2 ds vs → ∀ p, H2 p = none → Q (.ref p) (upd H2 p (.lst vs))) : tLst ta σ H Q := h H _ (Same.refl _) fun H2 vs s2 rs => ⟨by rw [rs.length]; exact Nat.le_trans (Nat.le_of_ble_eq_true hl) (by decide), fun p hp => k H2 vs s2 rs p hp⟩
theorem run_setL {D : Ends} {t2 : TS} {i : Nat} (h : MkA S ta σ H ds) (hl : Nat.ble ds.length 1000 = true) (k : ∀ H2 vs, Same H H2 → Reps S H2 ds vs → ∀ p, H2 p = none → t2 D (σ.set i (some (.ref p))) (upd H2 p (.lst vs))) : tSeq (tAsg (tLst ta) (gName i)) t2 D σ H := run_lst (Q := fun v H' => t2 D (σ.set i (some v)) H') h hl k
theorem run_set {D : Ends} {t2 : TS} {i : Nat} (h : MkE S te σ H d) (k : ∀ H2 v, Same H H2 → Rep S H2 d v → t2 D (σ.set i (some v)) H2) : tSeq (tAsg te (gName i)) t2 D σ H := h H _ (Same.refl _) k
theorem mk_eq (h : MkE S te σ H d) (e2 : d = e) : MkE S te σ H e := e2 ▸ h
theorem mk_var {i : Nat} {v : V} (h : σ[i]? = some (some v)) (r : Rep S H d v) : MkE S (tVar i) σ H d := fun H1 _ s k => ⟨v, h, k H1 v (Same.refl _) (r.same s)⟩
theorem mk_str {x : Str} : MkE S (tC (.str x)) σ H (.str x) := fun H1 _ _ k => k H1 _ (Same.refl _) rfl
theorem mk_int {i : Int} : MkE S (tC (.int i)) σ H (.int i) := fun H1 _ _ k => k H1 _ (Same.refl _) rfl
theorem mk_bl {b : Bool} : MkE S (tC (.bl b)) σ H (.bl b) := fun H1 _ _ k => k H1 _ (Same.refl _) rfl
theorem mk_non : MkE S (tC .non) σ H .non := fun H1 _ _ k => k H1 _ (Same.refl _) rfl
theorem mkA_nil : MkA S tNil σ H [] := fun H1 _ _ k => k H1 [] (Same.refl _) rfl
theorem mkA_cons (h : MkE S te σ H d) (k : MkA S ta σ H ds) : MkA S (tCons te ta) σ H (d :: ds) := fun H1 _ s q => h H1 _ s fun _ _ s2 r => k _ _ (s.trans s2) fun H3 vs s3 rs => q H3 (_ :: vs) (s2.trans s3) ⟨_, vs, rfl, r.same s3, rs⟩
theorem mk_tup (h : MkA S ta σ H ds) (hl : Nat.ble ds.length 1000 = true := by rfl) : MkE S (tTup ta) σ H (.tup ds) := fun H1 _ s k => h H1 _ s fun _ vs s2 rs => ⟨by rw [rs.length]; exact Nat.le_trans (Nat.le_of_ble_eq_true hl) (by decide), fun p hp => k _ (.ref p) (s2.trans (Same.new hp)) ⟨p, vs, rfl, upd_same, rs.same (Same.new hp)⟩⟩
theorem mk_lst (hS : ∀ p, H p = none → S p) (h : MkA S ta σ H ds) (hl : Nat.ble ds.length 1000 = true := by rfl) : MkE S (tLst ta) σ H (.lst ds) := fun H1 _ s k => h H1 _ s fun _ vs s2 rs => ⟨by rw [rs.length]; exact Nat.le_trans (Nat.le_of_ble_eq_true hl) (by decide), fun p hp => k _ (.ref p) (s2.trans (Same.new hp)) ⟨p, vs, rfl, hS p (none_back (s.trans s2) hp), upd_same, rs.same (Same.new hp)⟩⟩
theorem mk_cat (hS : ∀ p, H p = none → S p) (h : MkE S te σ H (.lst ds)) (k : MkE S tf σ H (.lst es)) (hl : ds.length + es.length ≤ 1000) : MkE S (tOp rCat te tf) σ H (.lst (ds ++ es)) := fun H1 _ s q => h H1 _ s fun H2 v s2 r => k H2 _ (s.trans s2) fun H3 u s3 r2 => by
  obtain ⟨a, vs, rfl, _, ha, ra⟩ := r.same s3
  obtain ⟨b, us, rfl, _, hb, rb⟩ := r2
  refine ⟨a, b, vs, us, rfl, rfl, ha, hb, by rw [ra.length, rb.length]; exact Nat.le_trans hl (by decide), fun p hp => q _ (.ref p) ((s2.trans s3).trans (Same.new hp)) ⟨p, _, rfl, hS p (none_back ((s.trans s2).trans s3) hp), upd_same, Reps.append (ra.same (Same.new hp)) (rb.same (Same.new hp))⟩⟩
theorem mk_ixL {i : Int} (h : MkE S te σ H (.lst ds)) (k : MkE S tf σ H (.int i)) (hi : ∀ vs : List V, vs.length = ds.length → ∃ j : Nat, ds[j]? = some d ∧ atI vs i = vs[j]?) : MkE S (tOp (rIxL K) te tf) σ H d := fun H1 _ s q => h H1 _ s fun H2 v s2 r => k H2 _ (s.trans s2) fun H3 u s3 r2 => by
  obtain ⟨a, vs, rfl, _, ha, ra⟩ := r.same s3
  cases (show u = .int i from r2)
  obtain ⟨j, hj, e⟩ := hi vs ra.length
  have hl := ra.length
  have hjl : j < vs.length := by rw [hl]; exact (List.getElem?_eq_some_iff.mp hj).1
  have hv : vs[j]? = some vs[j] := List.getElem?_eq_getElem hjl
  obtain ⟨d2, h2, r3⟩ := ra.get hv
  rw [hj] at h2
  cases h2
  exact ⟨a, vs, i, vs[j], rfl, rfl, SqL.of ha, by rw [e, hv], q H3 _ (s2.trans s3) r3⟩
theorem mk_ixT {i : Int} (h : MkE S te σ H (.tup ds)) (k : MkE S tf σ H (.int i)) (hi : ∀ vs : List V, vs.length = ds.length → ∃ j : Nat, ds[j]? = some d ∧ atI vs i = vs[j]?) : MkE S (tOp (rIxT K) te tf) σ H d := fun H1 _ s q => h H1 _ s fun H2 v s2 r => k H2 _ (s.trans s2) fun H3 u s3 r2 => by
  obtain ⟨a, vs, rfl, ha, ra⟩ := r.same s3
  cases (show u = .int i from r2)
  obtain ⟨j, hj, e⟩ := hi vs ra.length
  have hl := ra.length
  have hjl : j < vs.length := by rw [hl]; exact (List.getElem?_eq_some_iff.mp hj).1
  have hv : vs[j]? = some vs[j] := List.getElem?_eq_getElem hjl
  obtain ⟨d2, h2, r3⟩ := ra.get hv
  rw [hj] at h2
  cases h2
  exact ⟨a, vs, i, vs[j], rfl, rfl, SqT.of ha, by rw [e, hv], q H3 _ (s2.trans s3) r3⟩
/-- the place of an index that is a natural number -/
theorem at_nat {j : Nat} (h : ds[j]? = some d) : ∀ vs : List V, vs.length = ds.length → ∃ j' : Nat, ds[j']? = some d ∧ atI vs (j : Int) = vs[j']? := fun vs hl => ⟨j, h, by
  have hjl : j < vs.length := by rw [hl]; exact (List.getElem?_eq_some_iff.mp h).1
  have hv : vs[j]? = some vs[j] := List.getElem?_eq_getElem hjl
  rw [hv]
  exact atI_nat hv⟩
theorem Reps.drop : ∀ {ds : List D} {vs : List V} (n : Nat), Reps S H ds vs → Reps S H (ds.drop n) (vs.drop n)
  | _, _, 0, h => h
  | [], _, n + 1, h => by cases (show _ = [] from h); rfl
  | d :: ds, _, n + 1, h => by
    obtain ⟨v, r, rfl, _, h2⟩ := h
    exact Reps.drop n h2
theorem Reps.rev : ∀ {ds : List D} {vs : List V}, Reps S H ds vs → Reps S H ds.reverse vs.reverse
  | [], _, h => by cases (show _ = [] from h); rfl
  | d :: ds, _, h => by
    obtain ⟨v, r, rfl, h1, h2⟩ := h
    rw [List.reverse_cons, List.reverse_cons]
    exact Reps.append (Reps.rev h2) (Reps.one h1)
theorem cutV_drop (xs : List V) (k : Nat) : cutV xs (some (k : Int)) none = xs.drop k := by
  unfold cutV
  rw [HT.sIx_nat, HT.sIx_none]
  by_cases h : k ≤ xs.length
  · rw [Nat.min_eq_left h, List.take_of_length_le (by rw [List.length_drop]; exact Nat.le_refl _)]
  · rw [Nat.min_eq_right (by omega), List.drop_length, List.drop_eq_nil_of_le (by omega), List.take_nil]
theorem mk_from {k : Nat} (hS : ∀ p, H p = none → S p) (h : MkE S te σ H (.lst ds)) (hk : MkE S tf σ H (.int (k : Nat))) : MkE S (tSl (rSlL K) te (tPart tf) tNoPart) σ H (.lst (ds.drop k)) := fun H1 _ s q => h H1 _ s fun H2 v s2 r => hk H2 _ (s.trans s2) fun H3 u s3 r2 => by
  obtain ⟨a, vs, rfl, _, ha, ra⟩ := r.same s3
  cases (show u = .int (k : Nat) from r2)
  refine ⟨(k : Nat), rfl, a, vs, rfl, SqL.of ha, fun p hp => ?_⟩
  rw [cutV_drop]
  exact q _ (.ref p) ((s2.trans s3).trans (Same.new hp)) ⟨p, _, rfl, hS p (none_back ((s.trans s2).trans s3) hp), upd_same, (ra.drop k).same (Same.new hp)⟩
theorem mk_to {k : Nat} (hS : ∀ p, H p = none → S p) (h : MkE S te σ H (.lst ds)) (hk : MkE S tf σ H (.int (k : Nat))) : MkE S (tSl (rSlL K) te tNoPart (tPart tf)) σ H (.lst (ds.take k)) := fun H1 _ s q => h H1 _ s fun H2 v s2 r => hk H2 _ (s.trans s2) fun H3 u s3 r2 => by
  obtain ⟨a, vs, rfl, _, ha, ra⟩ := r.same s3
  cases (show u = .int (k : Nat) from r2)
  refine ⟨(k : Nat), rfl, a, vs, rfl, SqL.of ha, fun p hp => ?_⟩
  rw [cutV_take]
  exact q _ (.ref p) ((s2.trans s3).trans (Same.new hp)) ⟨p, _, rfl, hS p (none_back ((s.trans s2).trans s3) hp), upd_same, (ra.take k).same (Same.new hp)⟩
theorem mk_rev (hS : ∀ p, H p = none → S p) (h : MkE S te σ H (.lst ds)) : MkE S (tRevL K te) σ H (.lst ds.reverse) := fun H1 _ s q => h H1 _ s fun H2 v s2 r => by
  obtain ⟨a, vs, rfl, _, ha, ra⟩ := r
  exact ⟨a, vs, rfl, SqL.of ha, fun p hp => q _ (.ref p) (s2.trans (Same.new hp)) ⟨p, _, rfl, hS p (none_back (s.trans s2) hp), upd_same, ra.rev.same (Same.new hp)⟩⟩
theorem mk_not {b : Bool} (h : MkE S te σ H (.bl b)) : MkE S (tNotV te) σ H (.bl (!b)) := fun H1 _ s q => h H1 _ s fun H2 v s2 r => by
  cases (show v = .bl b from r)
  exact ⟨b, rfl, q H2 _ s2 rfl⟩
theorem mk_addI {i j : Int} (h : MkE S te σ H (.int i)) (k : MkE S tf σ H (.int j)) : MkE S (tOp (rI0 fun i j => .int (i + j)) te tf) σ H (.int (i + j)) := fun H1 _ s q => h H1 _ s fun H2 v s2 r => k H2 _ (s.trans s2) fun H3 u s3 r2 => by
  cases (show v = .int i from r)
  cases (show u = .int j from r2)
  exact ⟨i, j, rfl, rfl, q H3 _ (s2.trans s3) rfl⟩
theorem run_setLcT {D : Ends} {t2 : TS} {g gi : TG} {tt : TT} {tb : TE} {own : List Nat} (h : MkE S te σ H d) (k : ∀ H2 v, Same H H2 → Rep S H2 d v → tSeq (tAsg (tLc (iTup K (tC v)) g tt tb own) gi) t2 D σ H2) : tSeq (tAsg (tLc (iTup K te) g tt tb own) gi) t2 D σ H := h H _ (Same.refl _) k
theorem run_first {D : Ends} {t2 : TS} {gi : TG} (h : MkE S te σ H d) (k : ∀ H2 v, Same H H2 → Rep S H2 d v → tSeq (tAsg (tTup (tCons (tC v) ta)) gi) t2 D σ H2) : tSeq (tAsg (tTup (tCons te ta)) gi) t2 D σ H := h H _ (Same.refl _) k
/-- a test d != e of data -/
theorem mk_neD {n : Nat} {Q : Bool → Hp → Prop} (h : MkE S te σ H d) (k : MkE S tf σ H e) (hd : d.ok n) (he : e.ok n) (hn : n ≤ 64) (q : ∀ H2, Same H H2 → Q (!d.eq e) H2) : tTest (tOp (rNeD K) te tf) σ H Q := h H _ (Same.refl _) fun H2 v s2 r => k H2 _ s2 fun H3 u s3 r2 =>
  ⟨d.py, e.py, (r.same s3).dp hd, r2.dp he, D.ok_shaped hd hn, D.ok_shaped he hn, _, rfl, q H3 (s2.trans s3)⟩
theorem run_ifNe {n : Nat} {D : Ends} {t u : TS} (h : MkE S te σ H d) (k : MkE S tf σ H e) (hd : d.ok n) (he : e.ok n) (hn : n ≤ 64) (q : ∀ H2, Same H H2 → if (!d.eq e) = true then t D σ H2 else u D σ H2) : tIfS (tTest (tOp (rNeD K) te tf)) t u D σ H := mk_neD (Q := fun b H2 => if b = true then t D σ H2 else u D σ H2) h k hd he hn q
theorem run_ifAndNe {n : Nat} {D : Ends} {t u : TS} {tt : TT} (h : MkE S te σ H d) (k : MkE S tf σ H e) (hd : d.ok n) (he : e.ok n) (hn : n ≤ 64) (q : ∀ H2, Same H H2 → if (!d.eq e) = true then tIfS tt t u D σ H2 else u D σ H2) : tIfS (tAnd (tTest (tOp (rNeD K) te tf)) tt) t u D σ H :=
  mk_neD (Q := fun c H1 => if c = true then tt σ H1 (fun b H2 => if b = true then t D σ H2 else u D σ H2) else if false = true then t D σ H1 else u D σ H1) h k hd he hn fun H2 s2 => by
    have z := q H2 s2
    revert z
    cases (!d.eq e) with
    | true => exact fun z => z
    | false => exact fun z => z
theorem eq_nil : ∀ xs : List D, (D.lst xs).eq (.lst []) = xs.isEmpty
  | [] => rfl
  | _ :: _ => rfl
end
end Q1
set_option Elab.async false
set_option linter.all false
set_option maxRecDepth 100000
set_option maxHeartbeats 4000000
namespace Q1
open PySem L2 LamX PyProof.Rows
section
variable {S : Addr → Prop} {σ : L2.St} {H : Hp} {te tl : TE} {ta : TA} {d e : D} {ds es : List D} {K : PySem.W.Frag}
theorem mk_dnew : MkE S tDNewK σ H .dic := fun H1 _ _ k p hp => k _ (.ref p) (Same.new hp) ⟨p, rfl, upd_same⟩
theorem mk_listOf (hS : ∀ p, H p = none → S p) (h : MkE S te σ H d) (hd : d.items? = some ds) : MkE S (tCB (rListOf K) (tCons te tNil)) σ H (.lst ds) := fun H1 _ s q => h H1 _ s fun H2 v s2 r => by
  obtain ⟨a, vs, rfl, hq, ra⟩ := r.seq (K := K) hd
  exact ⟨a, vs, rfl, hq, fun l hl => q _ (.ref l) (s2.trans (Same.new hl)) ⟨l, vs, rfl, hS l (none_back (s.trans s2) hl), upd_same, ra.same (Same.new hl)⟩⟩
def rLenS (K : PySem.W.Frag) : List V → Hp → VK → Prop := fun xs H Q => ∃ p ys, xs = [.ref p] ∧ (SqL K H p ys ∨ SqT K H p ys) ∧ Q (.int ys.length) H
theorem call_lenS {X : Cx} : CallR X (.builtin "len") (rLenS X.K) := call_len_seq
theorem mk_len (h : MkE S te σ H d) (hd : d.items? = some ds) : MkE S (tCB (rLenS K) (tCons te tNil)) σ H (.int (ds.length : Nat)) := fun H1 _ s q => h H1 _ s fun H2 v s2 r => by
  obtain ⟨a, vs, rfl, hq, ra⟩ := r.seq (K := K) hd
  refine ⟨a, vs, rfl, hq, q _ _ s2 ?_⟩
  show V.int _ = V.int _
  rw [ra.length]
/-- a comprehension that only makes data, over a list -/
theorem run_lcL {own : List Nat} {g : TG} {Q : VK} (hS : ∀ p, H p = none → S p) (h : MkE S tl σ H (.lst ds)) (hlen : es.length = ds.length) (hsz : ds.length ≤ 1000)
    (he : ∀ (S' : Addr → Prop) (H1 : Hp) (j : Nat) (d e : D) (v : V), Same H H1 → (∀ p, H1 p = none → S' p) → (∀ b, S b → H b ≠ none → S' b) → ds[j]? = some d → es[j]? = some e → Rep S' H1 d v → ∀ Q' : L2.St → Hp → Prop, (∀ σ2, wipe σ2 own = wipe σ own → MkE S' te σ2 H1 e → Q' σ2 H1) → g v (wipe σ own) H1 Q')
    (k : ∀ H3 D0 zs, Same H H3 → H D0 = none → H3 D0 = some (.lst zs) → Reps (fun b => S b ∧ b ≠ D0) H3 es zs → Q (.ref D0) H3) : tLc (iList K tl) g tYes te own σ H Q := h H _ (Same.refl _) fun H2 v s2 r => by
  obtain ⟨a, vs, rfl, _, ha, ra⟩ := r
  have hvl := ra.length
  refine ⟨a, rfl, ⟨_, SqL.of ha⟩, fun D0 hD => lc_list (K := K) (a := a) (xs := vs) (fun j H' => Same H2 H' ∧ ∃ zs, H' D0 = some (.lst zs) ∧ Reps (fun b => S b ∧ b ≠ D0) H' (es.take j) zs) ⟨Same.new hD, [], upd_same, rfl⟩ (fun j H' _ y => SqL.of (y.1 _ _ ha)) ?_ ?_⟩
  · rintro j x H' hx ⟨sm, zs, hz, rz⟩
    have hjl : j < vs.length := (List.getElem?_eq_some_iff.mp hx).1
    obtain ⟨d, hd, rx⟩ := (ra.here.same sm).get hx
    have hej : es[j]? = some (es[j]'(by omega)) := List.getElem?_eq_getElem (by omega)
    have hHD : H D0 = none := none_back s2 hD
    refine he (fun b => S b ∧ b ≠ D0) H' j d _ x (s2.trans sm) (fun p hp => ⟨hS p (none_back (s2.trans sm) hp), fun z => by rw [z, hz] at hp; cases hp⟩) (fun b hb hn => ⟨hb, fun z => hn (z ▸ hHD)⟩) hd hej (Rep.mono (fun b z => ⟨z.1, fun q => z.2 (by rw [q]; exact hD)⟩) (fun _ _ e _ => e) rx) _ fun σ2 hw mk => ⟨hw, ?_⟩
    refine mk H' _ (Same.refl _) fun H4 y s4 r4 => ?_
    have hz4 := s4 _ _ hz
    have hzl := rz.length
    rw [List.length_take] at hzl
    have st : Stay (fun b => S b ∧ b ≠ D0) H4 (upd H4 D0 (.lst (zs ++ [y]))) := stay_upd hz4 (nd_lst fun z => z.2 rfl)
    refine ⟨zs, hz4, Nat.lt_of_lt_of_le (show zs.length < 1001 by omega) (by decide), Same.at (sm.trans s4) hD, _, upd_same, ?_⟩
    rw [List.take_add_one, hej]
    exact Reps.append (Reps.mono (fun _ z => z) st (rz.same s4)) (Reps.one (Rep.mono (fun _ z => z) st r4))
  · rintro H3 ⟨sm, zs, hz, rz⟩
    rw [hvl, ← hlen, List.take_length] at rz
    exact k H3 D0 zs (s2.trans sm) (none_back s2 hD) hz rz
theorem mk_lcL {own : List Nat} {g : TG} (hS : ∀ p, H p = none → S p) (h : MkE S tl σ H (.lst ds)) (hlen : es.length = ds.length) (hsz : ds.length ≤ 1000)
    (he : ∀ (S' : Addr → Prop) (H1 : Hp) (j : Nat) (d e : D) (v : V), Same H H1 → (∀ p, H1 p = none → S' p) → (∀ b, S b → H b ≠ none → S' b) → ds[j]? = some d → es[j]? = some e → Rep S' H1 d v → ∀ Q' : L2.St → Hp → Prop, (∀ σ2, wipe σ2 own = wipe σ own → MkE S' te σ2 H1 e → Q' σ2 H1) → g v (wipe σ own) H1 Q') :
    MkE S (tLc (iList K tl) g tYes te own) σ H (.lst es) := fun H1 Q s k => run_lcL (S := S) (H := H1) (fun p hp => hS p (none_back s hp)) (fun H2 Q2 s2 k2 => h H2 Q2 (s.trans s2) k2) hlen hsz (fun S' H2 j d e v s2 h1 h2 => he S' H2 j d e v (s.trans s2) h1 (fun b hb hn => h2 b hb (fun z => hn (none_back s z)))) fun H3 D0 zs s3 hD hz rz => k H3 (.ref D0) s3 ⟨D0, zs, rfl, hS D0 (none_back s hD), hz, Reps.mono (fun _ z => z.1) (fun _ _ e _ => e) rz⟩
/-- the same over a tuple -/
theorem run_lcT {own : List Nat} {g : TG} {Q : VK} (hS : ∀ p, H p = none → S p) (h : MkE S tl σ H (.tup ds)) (hlen : es.length = ds.length) (hsz : ds.length ≤ 1000)
    (he : ∀ (S' : Addr → Prop) (H1 : Hp) (j : Nat) (d e : D) (v : V), Same H H1 → (∀ p, H1 p = none → S' p) → (∀ b, S b → H b ≠ none → S' b) → ds[j]? = some d → es[j]? = some e → Rep S' H1 d v → ∀ Q' : L2.St → Hp → Prop, (∀ σ2, wipe σ2 own = wipe σ own → MkE S' te σ2 H1 e → Q' σ2 H1) → g v (wipe σ own) H1 Q')
    (k : ∀ H3 D0 zs, Same H H3 → H D0 = none → H3 D0 = some (.lst zs) → Reps (fun b => S b ∧ b ≠ D0) H3 es zs → Q (.ref D0) H3) : tLc (iTup K tl) g tYes te own σ H Q := h H _ (Same.refl _) fun H2 v s2 r => by
  obtain ⟨a, vs, rfl, ha, ra⟩ := r
  have hvl := ra.length
  refine ⟨a, rfl, ⟨_, SqT.of ha⟩, fun D0 hD => lc_tup (K := K) (a := a) (xs := vs) (fun j H' => Same H2 H' ∧ ∃ zs, H' D0 = some (.lst zs) ∧ Reps (fun b => S b ∧ b ≠ D0) H' (es.take j) zs) ⟨Same.new hD, [], upd_same, rfl⟩ (fun j H' _ y => SqT.of (y.1 _ _ ha)) ?_ ?_⟩
  · rintro j x H' hx ⟨sm, zs, hz, rz⟩
    have hjl : j < vs.length := (List.getElem?_eq_some_iff.mp hx).1
    obtain ⟨d, hd, rx⟩ := (ra.here.same sm).get hx
    have hej : es[j]? = some (es[j]'(by omega)) := List.getElem?_eq_getElem (by omega)
    have hHD : H D0 = none := none_back s2 hD
    refine he (fun b => S b ∧ b ≠ D0) H' j d _ x (s2.trans sm) (fun p hp => ⟨hS p (none_back (s2.trans sm) hp), fun z => by rw [z, hz] at hp; cases hp⟩) (fun b hb hn => ⟨hb, fun z => hn (z ▸ hHD)⟩) hd hej (Rep.mono (fun b z => ⟨z.1, fun q => z.2 (by rw [q]; exact hD)⟩) (fun _ _ e _ => e) rx) _ fun σ2 hw mk => ⟨hw, ?_⟩
    refine mk H' _ (Same.refl _) fun H4 y s4 r4 => ?_
    have hz4 := s4 _ _ hz
    have hzl := rz.length
    rw [List.length_take] at hzl
    have st : Stay (fun b => S b ∧ b ≠ D0) H4 (upd H4 D0 (.lst (zs ++ [y]))) := stay_upd hz4 (nd_lst fun z => z.2 rfl)
    refine ⟨zs, hz4, Nat.lt_of_lt_of_le (show zs.length < 1001 by omega) (by decide), Same.at (sm.trans s4) hD, _, upd_same, ?_⟩
    rw [List.take_add_one, hej]
    exact Reps.append (Reps.mono (fun _ z => z) st (rz.same s4)) (Reps.one (Rep.mono (fun _ z => z) st r4))
  · rintro H3 ⟨sm, zs, hz, rz⟩
    rw [hvl, ← hlen, List.take_length] at rz
    exact k H3 D0 zs (s2.trans sm) (none_back s2 hD) hz rz
theorem mk_lcT {own : List Nat} {g : TG} (hS : ∀ p, H p = none → S p) (h : MkE S tl σ H (.tup ds)) (hlen : es.length = ds.length) (hsz : ds.length ≤ 1000)
    (he : ∀ (S' : Addr → Prop) (H1 : Hp) (j : Nat) (d e : D) (v : V), Same H H1 → (∀ p, H1 p = none → S' p) → (∀ b, S b → H b ≠ none → S' b) → ds[j]? = some d → es[j]? = some e → Rep S' H1 d v → ∀ Q' : L2.St → Hp → Prop, (∀ σ2, wipe σ2 own = wipe σ own → MkE S' te σ2 H1 e → Q' σ2 H1) → g v (wipe σ own) H1 Q') :
    MkE S (tLc (iTup K tl) g tYes te own) σ H (.lst es) := fun H1 Q s k => run_lcT (S := S) (H := H1) (fun p hp => hS p (none_back s hp)) (fun H2 Q2 s2 k2 => h H2 Q2 (s.trans s2) k2) hlen hsz (fun S' H2 j d e v s2 h1 h2 => he S' H2 j d e v (s.trans s2) h1 (fun b hb hn => h2 b hb (fun z => hn (none_back s z)))) fun H3 D0 zs s3 hD hz rz => k H3 (.ref D0) s3 ⟨D0, zs, rfl, hS D0 (none_back s hD), hz, Reps.mono (fun _ z => z.1) (fun _ _ e _ => e) rz⟩
theorem run_extend {i : Nat} {De : Ends} {t2 : TS} {l : Addr} {vs : List V} (hσ : σ[i]? = some (some (.ref l))) (hl : H l = some (.lst vs)) (mk : MkE S te σ H (.lst ds)) (hn : vs.length + ds.length ≤ 1000) (k : ∀ H2 us, Same H H2 → Reps S H2 ds us → t2 De σ (upd H2 l (.lst (vs ++ us)))) :
    tSeq (tDrop (tBM K "list" rExtend (tVar i) (tCons te tNil))) t2 De σ H := ⟨_, hσ, .inl ⟨rfl, _, SqL.of hl⟩, mk H _ (Same.refl _) fun H2 v s r => by
  obtain ⟨b, us, rfl, _, hb, ru⟩ := r
  exact ⟨l, b, vs, us, rfl, rfl, s _ _ hl, hb, by rw [ru.length]; exact Nat.le_trans hn (by decide), k H2 us s ru⟩⟩
theorem run_append {i : Nat} {De : Ends} {l : Addr} {vs : List V} (hσ : σ[i]? = some (some (.ref l))) (hl : H l = some (.lst vs)) (mk : MkE S te σ H d) (hn : vs.length ≤ 1000) (k : ∀ H2 u, Same H H2 → Rep S H2 d u → De.nx σ (upd H2 l (.lst (vs ++ [u])))) :
    tDrop (tBM K "list" rAppend (tVar i) (tCons te tNil)) De σ H := ⟨_, hσ, .inl ⟨rfl, _, SqL.of hl⟩, mk H _ (Same.refl _) fun H2 v s r => ⟨l, vs, v, rfl, rfl, s _ _ hl, Nat.lt_of_le_of_lt hn (by decide), k H2 v s r⟩⟩
end
end Q1
set_option Elab.async false
set_option linter.all false
set_option maxRecDepth 100000
set_option maxHeartbeats 4000000
namespace Q1
open PySem L2 LamX PyProof.Rows
/-! ### a def that runs where nothing is being shown: repr -/
structure FnG (P : Program) (w : World) (K : PySem.W.Frag) (mg : Str → Option Value) (base : Heap) (CX : CXT) (k : Nat) (f : Addr) (fd : FuncData) (ps : List Str) (sp : Sp) : Prop where
  len : ∀ vs H Q E, sp vs H Q E → vs.length = ps.length
  run : ∀ (A : Around) (outer : List Env) (s : Shared) (H : Hp) (args : Args) (us : List Value) (vs : List V) (Q : VK) (E : XK), A.guards = some [] → Room k A → Env0 P w K mg base A outer s H → BindsTo s fd args (ps.zip us) → Vals vs us → sp vs H Q E →
    codeAny (model P w) A (.call (.ref f) args) (CR CX outer P w H s Q E) s
theorem call_reprD {X : Cx} (hg : X.A.guards = some []) (hu : X.A.units + 200 < cLine) : CallR X (.builtin "repr") (fun xs H Q => ∃ (a : Addr) (d : PyData), xs = [.ref a] ∧ Dp X.K H (.ref a) d ∧ d.showable = true ∧ d.hasDict = false ∧ d.depth ≤ 64 ∧ d.shown.length ≤ sizeLine ∧ Q (.str d.shown) H) := by
  intro pins s σ H xs us Q I r h
  obtain ⟨a, d, rfl, hd, h1, h2, h3, h4, q⟩ := h
  obtain ⟨u, rfl, rx⟩ := vals1 r
  cases rx
  obtain ⟨as, rd⟩ := Dp.reads I d (.ref a) (Value.ref a) hd rfl
  refine PySem.repr_of_reads' rd h1 (fun z => by rw [h2] at z; cases z) hg (by omega) (fun _ _ e => e) (fun h' u tk hk => ?_) h4
  exact ⟨.str d.shown, H, I.kept (t' := tk) hk, ⟨_, rfl⟩, q⟩

theorem FnG.of {P : Program} {w : World} {K : PySem.W.Frag} {mg : Str → Option Value} {base : Heap} {CX : CXT} {k : Nat} {f : Addr} {fd : FuncData} {ps : List Str} {sp : Sp} (F : FnOk P w K mg base CX k f fd ps sp) : FnG P w K mg base CX k f fd ps sp :=
  ⟨F.len, fun A outer s H args us vs Q E _ hr => F.run A outer s H args us vs Q E hr⟩
theorem FnG.fn {P : Program} {w : World} {K : PySem.W.Frag} {mg : Str → Option Value} {base : Heap} {x qual : Str} {st : Stmt} {f : Addr} {fd : FuncData} {N ps : List Str} {k : Nat} {sp : Sp} (F : Fun K x qual st f fd) (S : FnScope N ps (defScope st)) (len : ∀ vs H Q E, sp vs H Q E → vs.length = ps.length)
    (body : ∀ (cdv : Value) (A : Around) (outer : List Env) (s : Shared) (H : Hp) (vs : List V) (Q : VK) (E : XK), A.guards = some [] → Room k (A.deeper (envOfC qual (defScope st) s.heap.objs.size f cdv)) → sp vs H Q E →
      ∃ t, PSs (cxOf CX0 P w K mg base N qual (defScope st) f cdv A outer s H E).nox (defBody st) t ∧ t { nx := fun _ H' => Q .non H', rt := Q } (L2.start N vs) H) : FnG P w K mg base CX0 (k + 1) f fd ps sp := by
  obtain ⟨oc, od, kV, doc, pm, an, cdv, ct, osl, rfl, lk, hcd⟩ := F.ex
  refine ⟨len, fun A outer s H args us vs Q E hgd hr e0 hb r hsp => ?_⟩
  have hlen := len _ _ _ _ hsp
  have KX : K.In s.heap := e0.mod.kin.keeps fun b o e => (e0.bs b o e).1
  have lim : s.heap.NoLimit := e0.mod.nolimit.keeps fun b o e => (e0.bs b o e).1
  have kinds : ∀ y ∈ ps.zip us, (defScope st).names.lookup y.1 = some .local ∨ ((defScope st).names.lookup y.1 = some .cell ∧ ((cellsFrom (s.heap.objs.size + 1) (defScope st).names []).lookup y.1).isSome = true) := fun ⟨n, v⟩ hy => by
    rcases S.par n (List.of_mem_zip hy).1 with q | q
    · exact .inl q
    · exact .inr ⟨q, PySem.W.cellsFrom_some _ _ _ (.inl q)⟩
  refine codeAny_call_function hr.depth (KX _ _ lk) rfl S.co S.gen rfl (PySem.W.codeRec_of KX hcd) (hb _ _ _ _ ?_)
  refine wpAny_newFunctionEnv_cells S.kind kinds fun env he s1 x => ?_
  subst he
  refine ⟨lim.keeps x.toInCall.keep, codeAny_func ?_⟩
  obtain ⟨t, ht0, hq⟩ := body cdv A outer s H vs Q E hgd (hr.deeper _) hsp
  have ht := ht0.nox
  have I0 : L2.Inv (cxOf CX0 P w K mg base N qual (defScope st) f cdv A outer s H E) [] (L2.start N vs) H s1 := inv_start S hr.hd e0 hlen r x
  refine wpAny_mono (ht.run [] s1 (L2.start N vs) H _ I0 hq) (fun fl s' hs => ?_) fun e s' hs => hs
  have done : ∀ {σ' : L2.St} {H' : Hp} {v : V} {u : Value}, L2.Inv (cxOf CX0 P w K mg base N qual (defScope st) f cdv A outer s H E) [] σ' H' s' → L2.RelV v u → Q v H' → CE outer P w H s Q u s' :=
    fun {σ' H' v u} J rv q => ⟨v, H', J.os, J.bare, J.base, J.hok, rv, q⟩
  cases fl with
  | ret u =>
    obtain ⟨v, σ', H', J, rv, q⟩ := hs
    exact done J rv q
  | next =>
    obtain ⟨σ', H', J, q⟩ := hs
    exact done (v := V.non) (u := Value.none) J rfl q
  | brk =>
    obtain ⟨_, _, _, q⟩ := hs
    exact q.elim
  | cont =>
    obtain ⟨_, _, _, q⟩ := hs
    exact q.elim
theorem deeper_guards {A : Around} {env : Env} (h : A.guards = some []) : (A.deeper env).guards = some [] := h
section
variable {X : Cx} {CX : CXT} {k : Nat} {f : Addr} {fd : FuncData} {ps : List Str} {sp : Sp} {dvs : List V} {ds : List Value} {E : XK} {x : Str} {p pos : Pos} {e : Expr} {es : List Expr} {t : TA}
theorem pe_callG (F : FnG X.prog X.w X.K X.mg X.base CX k f fd ps sp) (hgd : X.A.guards = some []) (hr : Room k X.A) (hg : Gl X x) (hm : X.mg x = some (.ref f)) (hk : PySem.W.keepIn X.K (.ref f) = true) (hb : Binds X.K fd ps ds) (hd : Vals dvs ds) (hx : Passes CX X E)
    (ha : PA X (e :: es) t) (hdb : (x == ("__debug__" : Str)) = false := by decide) (he : starEach (e :: es) X.env = (false, eval e X.env) :: starEach es X.env := by rfl) (hpl : (backTo pos (starEach es X.env)).any (·.1) = false := by rfl) :
    PE X (.Call (.Name x p) (e :: es) [] pos) (tCall sp dvs E t) := by
  refine ⟨fun pins s σ H Q I h => ?_⟩
  refine wpAny_Call_Name_kw (ld_glob I hg hm ?_ hdb)
  refine PySem.W.callWith_K (h₀ := X.base) I.ok.mod.kin hk (thn (ha.run pos pins s σ H _ I h) fun us s1 ⟨vs, H1, I1, r, q⟩ => ⟨I1.kIn, ?_⟩) he hpl
  have r2 : Vals (vs ++ dvs) (us ++ ds) := r.append hd
  have hlen : (us ++ ds).length = ps.length := by rw [← r2.length]; exact F.len _ _ _ _ q
  refine wpAny_call (codeAny_mono (F.run X.A X.stack s1 H1 ⟨us, []⟩ (us ++ ds) (vs ++ dvs) Q E hgd hr I1.env0 (hb s1 us I1.kIn hlen) r2 q) fun r s' hq => ?_)
  cases r with
  | error e => exact hx pins σ H1 s1 e s' I1 hq
  | ok fl =>
    cases fl with
    | ret u => exact I1.after hq
    | next => exact hq.elim
    | brk => exact hq.elim
    | cont => exact hq.elim
end
end Q1
set_option Elab.async false
set_option linter.all false
set_option maxRecDepth 100000
set_option maxHeartbeats 4000000
namespace Q1
open PySem PySem.Spec L2 LamX PyProof.Rows
/-! ### several except clauses, each with the same name behind as -/
/-- one clause's ends: the name is gone -/
def endsOff (De : Ends) (i : Nat) : Ends := { nx := fun σ1 H1 => De.nx (σ1.set i none) H1, rt := De.rt, bk := fun σ1 H1 => De.bk (σ1.set i none) H1, ct := fun σ1 H1 => De.ct (σ1.set i none) H1 }
def wishAs (K : PySem.W.Frag) (i : Nat) (Wo : WX) (De : Ends) : List (Value × (Addr → Value → Option Addr → TS)) → WX
  | [] => Wo
  | (c, ts) :: r => fun cls d σ H => ∃ b, PySem.W.exmOne K cls c = some b ∧ (b = true → ∀ a, H a = none → ts a cls d (endsOff De i) (σ.set i (some (.ref a))) H) ∧ (b = false → wishAs K i Wo De r cls d σ H)
inductive ClsAs (X : Cx) (n : Str) : List ExceptHandler → List (Value × (Addr → Value → Option Addr → TS)) → Prop
  | no : ClsAs X n [] []
  | one {x : Str} {c : Value} {ts : Addr → Value → Option Addr → TS} {b0 : Stmt} {su : List Stmt} {p1 p2 : Pos} {hs : List ExceptHandler} {l : List (Value × (Addr → Value → Option Addr → TS))} (nm : Names X x c)
      (go : ∀ (a : Addr) (oe : Obj) (cls : Value) (d : Option Addr) (pn : List (Addr × Obj)), Zc cls d oe → (∃ fs, oe.data = .fields fs) → PSs (X.suite a ((a, oe) :: pn)) (b0 :: su) (ts a cls d)) (r : ClsAs X n hs l) :
      ClsAs X n (.ExceptHandler (some (.Name x p1)) (some n) (b0 :: su) p2 :: hs) ((c, ts) :: l)
section
variable {X : Cx} {n : Str} {i : Nat} {bd : List Stmt} {e0 : ExceptHandler} {es : List ExceptHandler} {l : List (Value × (Addr → Value → Option Addr → TS))} {pos : Pos} {tb : WX → TS} {Wo : WX}
theorem ps_tryAs (st : X.stack = X.env :: X.outer) (fr : X.env.frame = some X.env.locals) (nd : X.N.Nodup) (hi : X.N[i]? = some n) (lc : X.env.kindOf n = some .local) (tk : Takes X Wo)
    (body : ∀ (W : WX) (pn : List (Addr × Obj)) (xe : Value → Shared → Prop), Takes (X.tr pn xe) W → PassesOwn (model X.prog X.w) X.A X.env xe → PSs (X.tr pn xe) bd (tb W)) (cl : ClsAs X n (e0 :: es) l) :
    PS X (.Try bd (e0 :: es) [] [] pos) (fun De σ H => tb (wishAs X.K i Wo De l) De σ H) := by
  refine ⟨fun pins s σ H De I0 h0 => ?_⟩
  have okX := I0.ok
  have frames : X.A.frames = some (X.env :: X.outer) := by
    rw [okX.frames, st]
  have locN : Loc X.env.scope n := Or.inl lc
  refine wpAny_Try_except ?_
  have run := (body (wishAs X.K i Wo De l) (X.pn ++ pins) (fun ev t1 => wpAny (model X.prog X.w) X.A (noteFrame ev X.env) (fun _ t2 => wpAny (model X.prog X.w) X.A (setFlight ev none) (fun _ t3 => wpAny (model X.prog X.w) X.A (handleBy ev X.env (e0 :: es)) (SP X pins De) X.xe t3) X.xe t2) X.xe t1) (fun _ sN caught => ?_) PassesOwn.looking).run [] s σ H De (I0.toTry _) h0
  · refine wpAny_mono run (fun fl sE hE => ?_) (fun _ _ z => z)
    cases fl with
    | next =>
      obtain ⟨σE, HE, JE, qE⟩ := hE
      exact wpAny_execs_nil ⟨σE, HE, JE.ofTry okX, qE⟩
    | brk =>
      obtain ⟨σE, HE, JE, qE⟩ := hE
      exact ⟨σE, HE, JE.ofTry okX, qE⟩
    | cont =>
      obtain ⟨σE, HE, JE, qE⟩ := hE
      exact ⟨σE, HE, JE.ofTry okX, qE⟩
    | ret uE =>
      obtain ⟨vE, σE, HE, JE, rE, qE⟩ := hE
      exact ⟨vE, σE, HE, JE.ofTry okX, rE, qE⟩
  · obtain ⟨x, Bx, sI, pI, σI, HI, cx, dx, rfl, JT, nbx, upx, skx, nax, osx, agx, wx⟩ := caught
    have J : Inv X pins σI HI sI := JT.ofTry okX
    have skX : Sky Bx (X.env :: X.outer) x (Zc cx dx) X.env.locals sN.heap := by
      rw [← st]
      exact skx
    show wpAny (model X.prog X.w) X.A (noteFrame (.ref x) X.env) _ _ _
    refine Sky.land Zc.steady frames fr skX fun g1 lnd upg => ?_
    have Jg : Inv X pins σI HI { sN with heap := g1 } := J.landed nbx lnd.1 (upx.trans upg) osx agx
    obtain ⟨og, vg, eg, zg, dg⟩ := lnd.there
    have noFrame : x ∉ frs (X.env :: X.outer) := fun hm => by
      obtain ⟨_, o2, e2, nf2⟩ := lnd.2.2.1.mem hm
      rw [eg] at e2
      cases e2
      exact nf2 _ dg
    have nLoc : x ≠ X.env.locals := fun z => noFrame (List.mem_filterMap.mpr ⟨X.env, List.mem_cons_self, by rw [fr, z]⟩)
    have nFs : x ∉ X.fs := fun hm => by
      obtain ⟨en, hen, q2⟩ := List.mem_filterMap.mp hm
      exact noFrame (List.mem_filterMap.mpr ⟨en, List.mem_cons_of_mem _ hen, q2⟩)
    have Sg := Jg.suite eg dg nax nLoc nFs
    have each : ∀ {hs2 : List ExceptHandler} {l2 : List (Value × (Addr → Value → Option Addr → TS))}, ClsAs X n hs2 l2 → wishAs X.K i Wo De l2 cx dx σI HI → wpAny (model X.prog X.w) X.A (handleBy (.ref x) X.env hs2) (SP X pins De) X.xe { sN with heap := g1 } := by
      intro hs2 l2 hk
      induction hk with
      | no =>
        intro wl
        refine wpAny_handleBy_nil ?_
        obtain ⟨_, _, _, o5, _, T5, _, _, e5, _, d5, at5, _⟩ := id lnd
        unfold PySem.passOn
        refine wpAny_bind (wpAny_field e5 d5 at5 ?_)
        rw [if_neg (by simp : ¬ ((Value.ref T5 == Value.none) = true))]
        have off : wpAny (model X.prog X.w) X.A (setFlight (.ref x) X.env.frame) (fun _ t4 => wpAny (model X.prog X.w) X.A (throw (.ref x) : Sem Flow) (SP X pins De) X.xe t4) X.xe { sN with heap := g1 } := by
          rw [fr]
          refine HandSPX.setFlight_upZ lnd fun g2 sky2 up2 => wpAny_throw (tk _ _ ?_)
          exact ⟨x, Bx, sI, pins, σI, HI, cx, dx, rfl, J, nbx, (upx.trans upg).trans up2, Or.inr (Or.inr (by rw [st]; exact sky2)), nax, osx, agx, wl⟩
        first
          | exact wpAny_bind (wpAny_pure (wpAny_bind off))
          | exact wpAny_bind off
      | @one y c ts b0 su p1 p2 hs3 l3 nm go r ih =>
        intro wl
        obtain ⟨bb, hb, yes, other⟩ := wl
        refine wpAny_handleBy_cons (codeAny_handlers_test ?_) (by intro z; cases z)
        have lookT : PySem.W.Looks (model X.prog X.w) g1 (typeOf (.ref x)) cx := fun A1 Q1 E1 s1 k1 q1 => wpAny_typeOf_ref (k1 _ _ eg) (by rw [zg.1]; exact q1)
        have lookE := PySem.W.exm_one (M := model X.prog X.w) (Jg.kIn) lookT hb
        have name : ∀ {Q1 : Value → Shared → Prop} {E1 : Value → Shared → Prop}, Q1 c { sN with heap := g1 } → wpAny (model X.prog X.w) (X.A.mark (some (.ref x))) (eval (.Name y p1) X.env) Q1 E1 { sN with heap := g1 } := fun {Q1 E1} q1 => by
          obtain ⟨gl, nodb, isg | ⟨ism, isb, isn⟩⟩ := nm
          · exact ld_glob (X := X.suite x ((x, og) :: (X.pn ++ pins))) Sg gl isg q1 nodb
          · exact ld_blt (X := X.suite x ((x, og) :: (X.pn ++ pins))) Sg gl ism isb q1 isn nodb
        refine name (lookE.here ?_)
        cases bb with
        | false =>
          show wpAny _ X.A (handleBy (.ref x) X.env hs3) _ _ _
          exact ih (other rfl)
        | true =>
          refine codeAny_handlers_suite_as ?_
          refine HandSPX.lands_againZ lnd fun g4 lnd4 up4 => ?_
          have J4 : Inv X pins σI HI { sN with heap := g4 } := J.landed nbx lnd4.1 ((upx.trans upg).trans up4) osx agx
          obtain ⟨o4, v4, e4, z4, d4⟩ := lnd4.there
          have Su := J4.suite e4 d4 nax nLoc nFs
          refine store_ok (X := X.suite x ((x, o4) :: (X.pn ++ pins))) (v := .ref x) Su nd hi locN rfl (fun t5 J5 => ?_) (.inr lc)
          refine wpAny_mono ((go x o4 cx dx (X.pn ++ pins) z4 ⟨_, d4⟩).run [] t5 _ HI _ J5 (yes rfl x nax)) (fun fl t6 h6 => ?_) (fun _ _ z => False.elim z)
          have leave : ∀ {σ6 : L2.St} {H6 : Hp} {R6 : Shared → Prop}, Inv (X.suite x ((x, o4) :: (X.pn ++ pins))) [] σ6 H6 t6 → (∀ t7, Inv X pins (σ6.set i none) H6 t7 → R6 t7) →
              wpAny (model X.prog X.w) X.A (do bindName X.env n .none; unbindBehindTheSuite X.env n p2) (fun _ t7 => R6 t7) X.xe t6 := fun {σ6 H6 R6} J6 q6 => gone_ok (J6.unsuite okX) nd hi lc q6
          cases fl with
          | next =>
            obtain ⟨σ6, H6, J6, q6⟩ := h6
            exact leave J6 fun t7 J7 => ⟨_, _, J7, q6⟩
          | brk =>
            obtain ⟨σ6, H6, J6, q6⟩ := h6
            exact leave J6 fun t7 J7 => ⟨_, _, J7, q6⟩
          | cont =>
            obtain ⟨σ6, H6, J6, q6⟩ := h6
            exact leave J6 fun t7 J7 => ⟨_, _, J7, q6⟩
          | ret u6 =>
            obtain ⟨v6, σ6, H6, J6, r6, q6⟩ := h6
            exact leave J6 fun t7 J7 => ⟨_, _, _, J7, r6, q6⟩
    exact each cl wx
end
end Q1
set_option Elab.async false
set_option linter.all false
set_option maxRecDepth 100000
set_option maxHeartbeats 4000000
namespace Q1
open PySem L2 LamX
/-! ### bits of small numbers -/
theorem and_nat (a b : Nat) : Builtin.bitAnd (a : Int) (b : Int) = ((a &&& b : Nat) : Int) := rfl
theorem not_neg (a : Nat) : decide (0 ≤ Builtin.bitNot (a : Int)) = false := by
  unfold Builtin.bitNot
  exact decide_eq_false (by omega)
theorem not_not (a : Nat) : Builtin.bitNot (Builtin.bitNot (a : Int)) = (a : Int) := by
  unfold Builtin.bitNot
  omega
theorem or_nat (a b : Nat) : Builtin.bitOr (a : Int) (b : Int) = ((a ||| b : Nat) : Int) := by
  unfold Builtin.bitOr Builtin.bitAnd
  rw [not_neg, not_neg]
  show Builtin.bitNot (Builtin.bitNot ((((Builtin.bitNot (Builtin.bitNot (a : Int))).toNat ||| (Builtin.bitNot (Builtin.bitNot (b : Int))).toNat : Nat)) : Int)) = _
  rw [not_not, not_not, not_not, Int.toNat_natCast, Int.toNat_natCast]
/-- below 2 ^ k, and no less than nought -/
def Bd (k : Nat) (x : Int) : Prop := ∃ n : Nat, x = (n : Int) ∧ n < 2 ^ k
theorem Bd.and {k : Nat} {x y : Int} (h1 : Bd k x) (h2 : Bd k y) : Bd k (Builtin.bitAnd x y) := by
  obtain ⟨a, rfl, ha⟩ := h1
  obtain ⟨b, rfl, _⟩ := h2
  exact ⟨_, and_nat a b, Nat.lt_of_le_of_lt Nat.and_le_left ha⟩
theorem Bd.or {k : Nat} {x y : Int} (h1 : Bd k x) (h2 : Bd k y) : Bd k (Builtin.bitOr x y) := by
  obtain ⟨a, rfl, ha⟩ := h1
  obtain ⟨b, rfl, hb⟩ := h2
  exact ⟨_, or_nat a b, Nat.or_lt_two_pow ha hb⟩
theorem Bd.xor {k : Nat} {x y : Int} (h1 : Bd k x) (h2 : Bd k y) : Bd k (Builtin.bitXor x y) := by
  obtain ⟨a, rfl, ha⟩ := h1
  obtain ⟨b, rfl, hb⟩ := h2
  have h := Nat.or_lt_two_pow ha hb
  have l : a &&& b ≤ a ||| b := Nat.le_trans Nat.and_le_left Nat.left_le_or
  refine ⟨(a ||| b) - (a &&& b), ?_, by omega⟩
  unfold Builtin.bitXor
  rw [or_nat, and_nat]
  omega
theorem Bd.mono {k j : Nat} {x : Int} (h : Bd k x) (kj : k ≤ j) : Bd j x := by
  obtain ⟨a, rfl, ha⟩ := h
  exact ⟨a, rfl, Nat.lt_of_lt_of_le ha (Nat.pow_le_pow_right (by decide) kj)⟩
theorem Bd.shl {k j : Nat} {x : Int} (h : Bd k x) : Bd (k + j) (x * 2 ^ j) := by
  obtain ⟨a, rfl, ha⟩ := h
  refine ⟨a * 2 ^ j, by rw [Int.natCast_mul, Int.natCast_pow]; rfl, ?_⟩
  rw [Nat.pow_add]
  exact Nat.mul_lt_mul_of_pos_right ha (Nat.pow_pos (by decide))
theorem or_split : ∀ (n a b : Nat), a < 2 ^ n → a ||| b = (a ^^^ b) + (a &&& b)
  | 0, a, b, h => by
    have : a = 0 := by omega
    subst this
    simp
  | n + 1, a, b, h => by
    have ih := or_split n (a / 2) (b / 2) (by rw [Nat.pow_succ] at h; omega)
    have h1 : (a ||| b) / 2 = a / 2 ||| b / 2 := Nat.or_div_two
    have h2 : (a ^^^ b) / 2 = a / 2 ^^^ b / 2 := Nat.xor_div_two
    have h3 : (a &&& b) / 2 = a / 2 &&& b / 2 := Nat.and_div_two
    have m : (a ||| b) % 2 = (a ^^^ b) % 2 + (a &&& b) % 2 := by
      have e1 : (a ||| b) % 2 = a % 2 ||| b % 2 := by have := Nat.or_mod_two_pow (a := a) (b := b) (n := 1); simpa using this
      have e2 : (a ^^^ b) % 2 = a % 2 ^^^ b % 2 := by have := Nat.xor_mod_two_pow (a := a) (b := b) (n := 1); simpa using this
      have e3 : (a &&& b) % 2 = a % 2 &&& b % 2 := by have := Nat.and_mod_two_pow (a := a) (b := b) (n := 1); simpa using this
      rw [e1, e2, e3]
      rcases Nat.mod_two_eq_zero_or_one a with p | p <;> rcases Nat.mod_two_eq_zero_or_one b with q | q <;> rw [p, q] <;> rfl
    omega
theorem xor_nat (a b : Nat) : Builtin.bitXor (a : Int) (b : Int) = ((a ^^^ b : Nat) : Int) := by
  unfold Builtin.bitXor
  rw [or_nat, and_nat, or_split a a b Nat.lt_two_pow_self]
  omega
end Q1
set_option Elab.async false
set_option linter.all false
set_option maxRecDepth 100000
set_option maxHeartbeats 4000000
namespace Q1
open PySem PySem.Spec PyProof.Rows L2
/-! ### f"{n:b}" -/
theorem bin_core : ∀ (k fuel n : Nat) (ds : List Char), 1 ≤ k → n < 2 ^ k → (Nat.toDigitsCore 2 fuel n ds).length ≤ ds.length + k
  | _, 0, _, ds, _, _ => by simp [Nat.toDigitsCore]
  | k, fuel + 1, n, ds, hk, hn => by
    unfold Nat.toDigitsCore
    by_cases h : n / 2 = 0
    · simp only [h, if_true, List.length_cons]
      omega
    · simp only [h, if_false]
      have hk1 : 1 ≤ k - 1 := by
        rcases Nat.lt_or_ge 1 k with q | q
        · omega
        · have : k = 1 := by omega
          rw [this] at hn
          exact absurd (show n / 2 = 0 by omega) h
      have e : 2 ^ k = 2 * 2 ^ (k - 1) := by
        have : k = (k - 1) + 1 := by omega
        rw [this, Nat.pow_succ, Nat.add_sub_cancel, Nat.mul_comm]
      have := bin_core (k - 1) fuel (n / 2) (Nat.digitChar (n % 2) :: ds) hk1 (by omega)
      rw [List.length_cons] at this
      omega
theorem bin_len {k n : Nat} (hk : 1 ≤ k) (hn : n < 2 ^ k) : (Nat.toDigits 2 n).length ≤ k := by
  have := bin_core k (n + 1) n [] hk hn
  simpa [Nat.toDigits] using this
/-- the form "b" -/
def fB : Builtin.Float.FormatSpec := { align := 62, type := some 98 }
def binS (a : Int) : Str := intField' fB (decide (a < 0)) [] ((Nat.toDigits 2 a.natAbs).map Char.toNat) [] 4
theorem parse_b : Builtin.Float.parseFormatSpec (Str.ofString "b").cps.toList "int" 62 = .ok fB := by rfl
theorem binS_length (a : Int) : (binS a).length ≤ 1 + (Nat.toDigits 2 a.natAbs).length := by
  have hd : ((Nat.toDigits 2 a.natAbs).map Char.toNat).isEmpty = false := by
    have := tDigits_len_ge 2 a.natAbs
    cases h : Nat.toDigits 2 a.natAbs with
    | nil => rw [h] at this; simp at this
    | cons _ _ => rfl
  have := intField'_length_plain fB (decide (a < 0)) ((Nat.toDigits 2 a.natAbs).map Char.toNat) 4 rfl rfl hd
  unfold binS
  rw [this, List.length_map]
  show max 0 _ ≤ _
  split <;> omega
open Builtin Builtin.Str Builtin.Int in
theorem field_b {prog : Program} {w : World} {A : Around} {E : Value → Shared → Prop} {s : Shared} {a : Int} {t : Tok} {Q : Value → Shared → Prop} (hl : (binS a).length ≤ sizeLine)
    (h : Q (.str (binS a) (s.toks + 1)) { s with toks := s.toks + 1 + 1 }) : wpAny (model prog w) A (formatField (.int a t) "b") Q E s := by
  show wpAny (model prog w) _ (holding [.int a t] (pyFormat (.int a t) "b")) Q E s
  unfold pyFormat
  refine wpAny_holding (wpAny_bind (wpAny_mkStr ?_ (by decide)))
  refine wpAny_bind (m := callSpecial? (.int a t) (Str.ofString "__format__") [.str "b" s.toks]) (wpAny_callSpecial?_slot (name := Str.ofString "__format__") (typeIs_int _ a t) F.slot_int_format ?_)
  refine wpAny_call (codeAny_call_builtin F.slot_int_format.plain F.entry_int_format (F.slot_int_format.check _ _ _ _ _ _ _ _ (typeIs_int _ a t) (F.args_int_format_2 _ _) ?_))
  unfold Builtin.«int.__format__»
  simp only [selfAndOne, noKeywords, Int.intOfSelf, asInt?, asStr?, List.isEmpty_nil, if_true, pure_bind, bind_assoc, Bool.false_eq_true, if_false, show (Value.str (Str.ofString "b") s.toks == Value.none) = false from rfl,
    show ((Str.ofString "b").length == 0) = false by decide, show (((Str.ofString "b").cps.toList.drop 1).any (· ≥ 128) || (decide ((Str.ofString "b").cps.getD 0 0 ≥ 128) && !([60, 62, 61, 94] : List Nat).contains ((Str.ofString "b").cps.getD 1 0))) = false by decide +kernel]
  refine wpAny_bind (wpAny_typeNameOf (T := "str") (typeIs_str _ _ _) (by decide) fun _ => ?_)
  refine wpAny_bind (wpAny_typeNameOfCut_int ?_)
  have hty : fB.type.getD (if ((Str.ofString "b").cps.back? == some 0) = true then 0 else 100) = 98 := rfl
  simp only [parse_b, hty]
  rw [if_pos (by decide)]
  show wpAny (model prog w) _ (retStr _) _ _ _
  unfold retStr
  refine wpAny_bind (wpAny_mkStr (wpAny_pure ?_) ?hs2)
  case hs2 => exact hl
  dsimp only
  refine wpAny_bind (wpAny_isInstance (typeIs_str _ _ _) isSubtype_str_str (wpAny_pure ?_))
  exact h
def tFmtB (te : TE) : TE := fun σ H Q => te σ H fun x H1 => ∃ i : Int, x = .int i ∧ (binS i).length ≤ sizeLine ∧ Q (.str (binS i)) H1
theorem pe_fmtB {X : Cx} {e : Expr} {te : TE} {k : Nat} {p pos pos2 pos3 : Pos} (he : PE X e te) : PE X (.JoinedStr [.FormattedValue e (-1) (some (.JoinedStr [.Constant (.str "b") k p] pos2)) pos3] pos) (tFmtB te) := by
  refine ⟨fun pins s σ H Q I h => ?_⟩
  refine wpAny_JoinedStr_one (wpAny_FormattedValue_spec (thn (he.run pins s σ H _ I h) fun v s1 hv => ?_))
  obtain ⟨x, H1, I1, r1, i, rfl, hl, q⟩ := hv
  obtain ⟨t, rfl⟩ := r1
  refine wpAny_JoinedStr_one (Calls.Constant_str ⟨_, _, rfl, field_b hl ⟨.str (binS i), H1, (I1.tok _).tok _, ⟨_, rfl⟩, q⟩⟩)
/-- the length of a small one -/
theorem binS_small {a : Int} {k : Nat} (hk : 1 ≤ k) (h : a.natAbs < 2 ^ k) : (binS a).length ≤ k + 1 := by
  have h1 := binS_length a
  have h2 := bin_len hk h
  omega
end Q1
set_option Elab.async false
set_option linter.all false
set_option maxRecDepth 100000
set_option maxHeartbeats 4000000
namespace Q1
open PySem PySem.Spec L2 LamX PyProof.Rows
/-! ### codes: the sum's truth at bit 0, its marks above -/
/-- whether an odd number of bits is set -/
def par (x : Nat) : Bool := (List.range 12).foldl (fun b i => b != x.testBit i) false
theorem par_xor (x y : Nat) : par (x ^^^ y) = (par x != par y) := by
  unfold par
  have h : ∀ (l : List Nat) (a b : Bool), l.foldl (fun c i => c != (x ^^^ y).testBit i) (a != b) = (l.foldl (fun c i => c != x.testBit i) a != l.foldl (fun c i => c != y.testBit i) b) := fun l => by
    induction l with
    | nil => exact fun _ _ => rfl
    | cons i l ih =>
      intro a b
      rw [List.foldl_cons, List.foldl_cons, List.foldl_cons, ← ih, Nat.testBit_xor]
      congr 1
      cases a <;> cases b <;> cases x.testBit i <;> cases y.testBit i <;> rfl
  exact h (List.range 12) false false
theorem count_par : ∀ x : Nat, x < 32 → Builtin.bitAnd (Txt.count (binS (x : Nat)) "1") 1 = (if par x then 1 else 0) := by decide +kernel
/-- whether a state keeps a code -/
def holdB (c s : Nat) : Bool := par ((c / 2) &&& (s / 2)) == (c % 2 == 1)
section
variable {P : Program} {w : World} {K : PySem.W.Frag} {mg : Str → Option Value} {base : Heap}
abbrev sMb : Stmt := top 23
theorem scMb : FnScope ["place"] ["place"] (defScope sMb) := ⟨rfl, rfl, rfl, by decide +kernel, rfl, by decide +kernel, by decide +kernel⟩
def mbM (p : Nat) : Nat := 2 * 2 ^ p
def spMb : Sp := fun vs H Q _ => ∃ p : Nat, vs = [.int (p : Nat)] ∧ p ≤ 100 ∧ Q (.int (mbM p : Nat)) H
theorem ok_mb (N : Dn K mg "mark_bit" sMb ["place"]) : FnOk P w K mg base CX0 1 N.f N.fd ["place"] spMb := by
  refine N.F.ok scMb (fun vs H Q E h => ?_) (fun cdv A outer s H vs Q E hr h => ?_)
  · obtain ⟨p, rfl, _⟩ := h
    rfl
  · obtain ⟨p, rfl, hp, k⟩ := h
    refine ⟨_, pss_one (ps_ret (pe_op op_shl pe_int (pv 0))), ?_⟩
    refine ⟨_, rfl, 2, (p : Int), rfl, rfl, ⟨by omega, by omega, by decide⟩, ?_⟩
    have e : (2 : Int) * 2 ^ ((p : Int)).toNat = ((mbM p : Nat) : Int) := by
      unfold mbM
      rw [Int.toNat_natCast, Int.natCast_mul, Int.natCast_pow]
      rfl
    show Q (.int ((2 : Int) * 2 ^ ((p : Int)).toNat)) H
    rw [e]
    exact k
abbrev sLp : Stmt := top 27
theorem scLp : FnScope ["code"] ["code"] (defScope sLp) := ⟨rfl, rfl, rfl, by decide +kernel, rfl, by decide +kernel, by decide +kernel⟩
def spLp : Sp := fun vs H Q _ => ∃ c : Nat, vs = [.int (c : Nat)] ∧ Q (.int ((Builtin.Int.intBits (c : Nat) : Nat) - 2 : Int)) H
theorem ok_lp (N : Dn K mg "last_place" sLp ["code"]) : FnOk P w K mg base CX0 1 N.f N.fd ["code"] spLp := by
  refine N.F.ok scLp (fun vs H Q E h => ?_) (fun cdv A outer s H vs Q E hr h => ?_)
  · obtain ⟨p, rfl, _⟩ := h
    rfl
  · obtain ⟨c, rfl, k⟩ := h
    refine ⟨_, pss_one (ps_ret (pe_op op_sub (pe_bits (pv 0)) pe_int)), ?_⟩
    exact ⟨_, rfl, _, rfl, _, _, rfl, rfl, k⟩
abbrev sDh : Stmt := top 33
theorem scDh : FnScope ["code", "state"] ["code", "state"] (defScope sDh) := ⟨rfl, rfl, rfl, by decide +kernel, rfl, by decide +kernel, by decide +kernel⟩
def spDh : Sp := fun vs H Q _ => ∃ c s : Nat, vs = [.int (c : Nat), .int (s : Nat)] ∧ s < 64 ∧ Q (.bl (holdB c s)) H
theorem ok_dh (N : Dn K mg "does_hold" sDh ["code", "state"]) : FnOk P w K mg base CX0 1 N.f N.fd ["code", "state"] spDh := by
  refine N.F.ok scDh (fun vs H Q E h => ?_) (fun cdv A outer s H vs Q E hr h => ?_)
  · obtain ⟨c, s, rfl, _⟩ := h
    rfl
  · obtain ⟨c, z, rfl, hz, k⟩ := h
    refine ⟨_, pss_one (ps_ret (pe_cmpR op_eq (pe_op op_and (pe_bm PySem.F.plainAttrs_str PySem.F.slot_str_count PySem.F.type_str_count mt_count (pe_fmtB (pe_op op_and (pe_op op_shr (pv 0) pe_int) (pe_op op_shr (pv 1) pe_int))) (pa_cons pe_str pa_nil)) pe_int) (pe_op op_and (pv 0) pe_int) (nomark _))), ?_⟩
    have e2 : ∀ a : Nat, (a : Int) / 2 ^ Int.toNat 1 = ((a / 2 : Nat) : Int) := fun a => by
      show (a : Int) / 2 = _
      omega
    have e1 : Builtin.bitAnd ((c : Int) / 2 ^ Int.toNat 1) ((z : Int) / 2 ^ Int.toNat 1) = (((c / 2) &&& (z / 2) : Nat) : Int) := by
      rw [e2, e2, and_nat]
    refine ⟨_, rfl, _, _, rfl, rfl, (by show (0 : Int) ≤ 1; decide), _, rfl, _, _, rfl, rfl, (by show (0 : Int) ≤ 1; decide), _, _, rfl, rfl, _, rfl, ?_⟩
    rw [e1]
    have lt : (c / 2) &&& (z / 2) < 32 := Nat.lt_of_le_of_lt Nat.and_le_right (by omega)
    have hp := count_par _ lt
    refine ⟨?_, rfl, _, _, rfl, rfl, _, _, rfl, rfl, ?_⟩
    · refine Nat.le_trans (binS_length _) ?_
      rw [Int.natAbs_natCast]
      have := bin_len (k := 5) (n := (c / 2) &&& (z / 2)) (by decide) lt
      exact Nat.le_trans (show 1 + _ ≤ 6 by omega) (by decide)
    refine ⟨_, rfl, _, _, rfl, rfl, rfl, ?_⟩
    have e3 : Builtin.bitAnd (c : Int) 1 = ((c % 2 : Nat) : Int) := by
      rw [show (1 : Int) = ((1 : Nat) : Int) from rfl, and_nat, Nat.and_one_is_mod]
    have e4 : decide (V.int (Builtin.bitAnd (Txt.count (binS (((c / 2) &&& (z / 2) : Nat) : Int)) "1") 1) = V.int (Builtin.bitAnd (c : Int) 1)) = holdB c z := by
      rw [Bool.eq_iff_iff, decide_eq_true_iff, hp, e3]
      unfold holdB
      rcases Nat.mod_two_eq_zero_or_one c with q | q <;> rw [q] <;> cases par ((c / 2) &&& (z / 2)) <;> decide
    show Q (V.bl (decide (V.int (Builtin.bitAnd (Txt.count (binS (((c / 2) &&& (z / 2) : Nat) : Int)) "1") 1) = V.int (Builtin.bitAnd (c : Int) 1)))) H
    rw [e4]
    exact k
/-! ### stepped_code -/
abbrev sSc : Stmt := top 31
abbrev nSc : List Str := ["code", "nexts", "found", "place", "bit"]
theorem scSc : FnScope nSc ["code", "nexts"] (defScope sSc) := ⟨rfl, rfl, rfl, by decide +kernel, rfl, by decide +kernel, by decide +kernel⟩
def stepG (c : Nat) : Nat → List Nat → Nat → Nat
  | _, [], f => f
  | p, b :: bs, f => stepG c (p + 1) bs (if c &&& mbM p = 0 then f else f ^^^ b)
/-- a code led over by a step -/
def stepM (c : Nat) (bs : List Nat) : Nat := stepG c 0 bs (c % 2)
theorem stepG_snoc (c b : Nat) : ∀ (bs : List Nat) (p f : Nat), stepG c p (bs ++ [b]) f = if c &&& mbM (p + bs.length) = 0 then stepG c p bs f else stepG c p bs f ^^^ b
  | [], p, f => by
    show stepG c (p + 1) [] _ = _
    unfold stepG
    rfl
  | x :: bs, p, f => by
    show stepG c (p + 1) (bs ++ [b]) _ = _
    rw [stepG_snoc c b bs (p + 1)]
    rw [show p + 1 + bs.length = p + (x :: bs).length by rw [List.length_cons]; omega]
    rfl
def spSc (K : PySem.W.Frag) : Sp := fun vs H Q _ => ∃ (c : Nat) (l : Addr) (bs : List Nat), vs = [.int (c : Nat), .ref l] ∧ SqL K H l (bs.map fun b => .int (b : Nat)) ∧ bs.length ≤ 50 ∧ ∀ H', Same H H' → Q (.int (stepM c bs : Nat)) H'
theorem ok_sc (B : Bt mg) (N : Dn K mg "stepped_code" sSc ["code", "nexts"]) (NM : Dn K mg "mark_bit" sMb ["place"]) : FnOk P w K mg base CX0 2 N.f N.fd ["code", "nexts"] (spSc K) := by
  have GM : FnOk P w K mg base CX0 1 NM.f NM.fd ["place"] spMb := ok_mb NM
  refine N.F.ok scSc (fun vs H Q E h => ?_) (fun cdv A outer s H vs Q E hr h => ?_)
  · obtain ⟨c, l, bs, rfl, _⟩ := h
    rfl
  · obtain ⟨c, l, bs, rfl, hl, hn, k⟩ := h
    refine ⟨_, pss_cons (ps_set (i := 2) scSc.nd rfl (Or.inl rfl) (pe_op op_and (pv 0) pe_int))
      (pss_cons (ps_for PassesOwn.never rfl (pi_enumA (by rfl) B.enumerate (pa_cons (pv 1) pa_nil)) (pg_tup rfl (pgs_cons (pg_name (i := 3) scSc.nd rfl (Or.inl rfl)) (pgs_cons (pg_name (i := 4) scSc.nd rfl (Or.inl rfl)) pgs_nil)))
        (pss_one (ps_if (pt_truth (pe_op op_and (pv 0) (pe_call GM hr (by rfl) NM.g NM.F.kp NM.b .nil pass0 (pa_cons (pv 3) pa_nil))) (fun _ => rfl)) (pss_one (ps_aug (i := 2) scSc.nd rfl (Or.inl rfl) (pv 4) iop_xor)) pss_nil)))
      (pss_one (ps_ret (pv 2)))), ?_⟩
    have e0 : Builtin.bitAnd (c : Int) 1 = ((c % 2 : Nat) : Int) := by
      rw [show (1 : Int) = ((1 : Nat) : Int) from rfl, and_nat, Nat.and_one_is_mod]
    refine ⟨_, rfl, _, _, rfl, rfl, ?_⟩
    dsimp only
    rw [e0]
    refine ⟨_, rfl, l, _, rfl, for_enumA (Hb := H) (.inl hl) (fun i σ H' => (∃ o3 o4, σ = [some (.int (c : Nat)), some (.ref l), some (.int (stepG c 0 (bs.take i) (c % 2) : Nat)), o3, o4]) ∧ Same H H') ⟨⟨_, _, rfl⟩, Same.refl _⟩ (fun i σ H' _ h => h.2) ?_ ?_⟩
    · rintro i T x σ H' hx ⟨⟨o3, o4, rfl⟩, sm⟩ hT
      obtain ⟨b, hb, rfl⟩ : ∃ b : Nat, bs[i]? = some b ∧ x = .int (b : Nat) := by
        rw [List.getElem?_map] at hx
        cases e : bs[i]? with
        | none => rw [e] at hx; cases hx
        | some z => rw [e] at hx; exact ⟨z, rfl, (Option.some.inj hx).symm⟩
      have hib : i < bs.length := (List.getElem?_eq_some_iff.mp hb).1
      have sT : Same H' (upd H' T (.tup [.int (i : Nat), .int (b : Nat)])) := Same.new hT
      refine ⟨T, _, rfl, SqT.of upd_same, rfl, ?_⟩
      refine ⟨_, _, rfl, _, _, rfl, rfl, ?_⟩
      have et : stepG c 0 (bs.take (i + 1)) (c % 2) = if c &&& mbM i = 0 then stepG c 0 (bs.take i) (c % 2) else stepG c 0 (bs.take i) (c % 2) ^^^ b := by
        rw [List.take_add_one, hb]
        show stepG c 0 (bs.take i ++ [b]) (c % 2) = _
        rw [stepG_snoc, List.length_take, Nat.min_eq_left (by omega), Nat.zero_add]
      refine ⟨_, rfl, _, rfl, i, rfl, by omega, _, _, rfl, rfl, ?_⟩
      refine ⟨_, rfl, ?_⟩
      have sm2 : Same H (upd H' T (.tup [.int (i : Nat), .int (b : Nat)])) := sm.trans sT
      refine ite2 (fun h => ?_) (fun h => ?_)
      · have hne : ¬ (c &&& mbM i = 0) := fun z => by
          have h : ((Builtin.bitAnd (c : Int) (mbM i : Nat)) != 0) = true := h
          rw [and_nat, z] at h
          exact absurd h (by decide)
        refine ⟨_, rfl, _, rfl, _, _, rfl, rfl, ?_⟩
        dsimp only
        rw [xor_nat]
        refine ⟨⟨some (.int (i : Nat)), some (.int (b : Nat)), ?_⟩, sm2⟩
        rw [et, if_neg hne]
        rfl
      · have hz : c &&& mbM i = 0 := by
          have h : ¬ ((Builtin.bitAnd (c : Int) (mbM i : Nat)) != 0) = true := h
          rw [and_nat] at h
          by_cases z : c &&& mbM i = 0
          · exact z
          · exact absurd (bne_iff_ne.mpr (by omega)) h
        refine ⟨⟨some (.int (i : Nat)), some (.int (b : Nat)), ?_⟩, sm2⟩
        rw [et, if_pos hz]
        rfl
    · rintro σ H' ⟨⟨o3, o4, rfl⟩, sm⟩
      refine ⟨_, rfl, ?_⟩
      rw [List.length_map, List.take_length]
      exact k H' sm
end
end Q1
set_option Elab.async false
set_option linter.all false
set_option maxRecDepth 100000
set_option maxHeartbeats 4000000
namespace Q1
open PySem L2 LamX
/-- behind the raise of an error -/
theorem err_same {H1 : Hp} {a d : Addr} {x y z u : HO} (ha : H1 a = none) (hd : upd H1 a x d = none) : Same H1 (upd (del (upd (upd (upd H1 a x) d y) a z) a) d u) := fun b o e => by
  have nba : b ≠ a := ne_of_none e ha
  have hd1 : H1 d = none := by
    have : d ≠ a := fun q => by rw [q, upd_same] at hd; cases hd
    rw [upd_ne this] at hd
    exact hd
  have nbd : b ≠ d := ne_of_none e hd1
  rw [upd_ne nbd, del_ne nba, upd_ne nba, upd_ne nbd, upd_ne nba]
  exact e
/-! ### name = {..} of a def's own name -/
section
variable {X : Cx}
theorem sw_dict {kx vx : Expr} {gens : List Comprehension} {scope : Scope} {pos py : Pos} {y : Str} {line : Nat} {env : Env} (isF : env.scope.kind = .function) (own : env.scope.names.lookup y = some .local) (same : (py.line == pos.line) = true)
    (apart : (scope.names.any fun (n, k) => n == y && (k == .local || k == .cell)) = false) : swapsWith (.DictComp kx vx gens scope pos) (some (.Name y py)) line env = pure true := by
  have k1 : env.kindOf y = some .local := own
  have k2 : env.blockKind = .function := by unfold Env.blockKind; rw [isF]; rfl
  unfold swapsWith
  simp only [k2, k1, apart, Expr.pos, same]
  rfl
theorem ps_setDc {i : Nat} {y : Str} {py : Pos} {kx vx tg iter : Expr} {ifs : List Expr} {scope : Scope} {own : List (Str × Nat)} {pos spos : Pos} {wi : TI} {g : TG} {tt : TT} {tk tv : TE} (calm : X.calm = true) (nd : X.N.Nodup) (at_ : X.N[i]? = some y) (loc : X.env.scope.names.lookup y = some .local)
    (sw : swapsWith (.DictComp kx vx [⟨tg, iter, ifs, 0⟩] scope pos) (some (.Name y py)) spos.line X.env = pure true) (walks : PI X tg iter wi) (blk : BlkOk X.N X.env.scope scope own)
    (hg : ∀ (s : Shared) (H : Hp) (C : Addr) (cl : List (Str × Addr)) (fp : List Addr), PG (X.blk s H scope (compEnvC scope cl C X.env) fp) tg g)
    (ht : ∀ (s : Shared) (H : Hp) (C : Addr) (cl : List (Str × Addr)) (fp : List Addr), PTs (X.blk s H scope (compEnvC scope cl C X.env) fp) ifs tt)
    (hk : ∀ (s : Shared) (H : Hp) (C : Addr) (cl : List (Str × Addr)) (fp : List Addr), PE (X.blk s H scope (compEnvC scope cl C X.env) fp) kx tk)
    (hv : ∀ (s : Shared) (H : Hp) (C : Addr) (cl : List (Str × Addr)) (fp : List Addr), PE (X.blk s H scope (compEnvC scope cl C X.env) fp) vx tv) (fold : ∀ x, foldedSetIterable iter X.env x = pure x := by intro _; rfl) :
    PS X (.Assign [.Name y py] (.DictComp kx vx [⟨tg, iter, ifs, 0⟩] scope pos) spos) (tAsg (tDc wi g tt tk tv (own.map (·.2))) (gName i)) := by
  refine ⟨fun pins s σ H De inv h => ?_⟩
  rw [exec_Assign_Name_used _ _ _ _ sw]
  refine wpAny_bind (wpAny_standAt (wpAny_bind ?_))
  show wpAny _ X.A (do let _ ← comprehension (.DictComp kx vx [⟨tg, iter, ifs, 0⟩] scope pos) scope X.env (firstIterPos [⟨tg, iter, ifs, 0⟩] pos) newDict false (eval iter X.env) (some (assign (.Name y py) X.env))) _ _ s
  have h : tDc wi g tt tk tv (own.map (·.2)) σ H (fun x H1 => gName i x σ H1 De.nx) := h
  refine wpAny_bind (thn (dc_core (Qf := fun _ s' => SP X pins De .next s') calm nd inv walks blk hg ht hk hv fold h fun L C sE m HE invE qE hn apart => ?_) fun _ _ hq => wpAny_pure (wpAny_pure hq))
  show wpAny _ _ (assign (.Name y py) X.env (.ref L)) _ _ _
  refine wpAny_assign_Name (store_ok2 (v := V.ref L) invE nd at_ (.inl loc) rfl (fun s2 inv2 ⟨a, sb, ha⟩ => ?_) (.inr loc))
  obtain ⟨z0, z1, z2, z3, z4, z5⟩ := apart
  have nCa : C ≠ a := by
    rcases ha with e | e
    · rw [e]; exact z1
    · exact fun q => z4 y a e q.symm
  refine ⟨m, hn.sameBut sb nCa, fun h3 sb3 => ?_⟩
  exact ⟨_, HE, inv2.turned (t' := s2.toks) (fun b o hb e => (sb3.2 b hb).trans e) z0 z1 z3 z4 z5, qE⟩
end
/-! ### errors with one field -/
abbrev sErr (i : Nat) : Stmt := inClass (top i) 0
structure Er1 (K : PySem.W.Frag) (mg : Str → Option Value) (x q : Str) (st : Stmt) (fl : Str) where
  C : Addr
  fI : Addr
  fd : FuncData
  F : Fun K "__init__" q st fI fd
  b : Binds K fd ["self", fl] []
  T : OexC K C
  iC : PySem.W.findIn K (.ref C) "__init__" = some (some (.ref fI))
  tI : PySem.W.typeIn K (.ref fI) = some (.type "function")
  g : mg x = some (.ref C)
  no : PySem.W.findIn K (.ref C) fl = some none
def spErr1 (C : Addr) (fl : Str) : Sp := fun vs H Q _ => ∃ (a : Addr) (y : V), vs = [.ref a, y] ∧ H a = some (exo a C none) ∧ ∀ dx, H dx = none → dx ≠ a → Q .non (upd (upd H dx (exd dx [(fl, y)])) a (exo a C (some dx)))
section
variable {P : Program} {w : World} {K : PySem.W.Frag} {mg : Str → Option Value} {base : Heap}
theorem scErr11 : FnScope ["self", "index"] ["self", "index"] (defScope (sErr 11)) := ⟨rfl, rfl, rfl, by decide +kernel, rfl, by decide +kernel, by decide +kernel⟩
theorem ok_err11 (R : Er1 K mg "BadSums" "BadSums.__init__" (sErr 11) "index") : FnOk P w K mg base (L2.CX P w) 1 R.fI R.fd ["self", "index"] (spErr1 R.C "index") := by
  refine R.F.okX scErr11 (fun vs H Q E h => ?_) (fun cdv A outer s H vs Q E hr h => ?_)
  · obtain ⟨a, y, rfl, _⟩ := h
    rfl
  · obtain ⟨a, y, rfl, ha, k⟩ := h
    exact ⟨_, pss_one (ps_ost (pv 0) (pv 1)), ⟨y, rfl, .ref a, rfl, a, R.C, rfl, R.T, R.no, .inl ⟨ha, fun dx h1 h2 => k dx h1 h2⟩⟩⟩
theorem scErr13 : FnScope ["self", "game"] ["self", "game"] (defScope (sErr 13)) := ⟨rfl, rfl, rfl, by decide +kernel, rfl, by decide +kernel, by decide +kernel⟩
theorem ok_err13 (R : Er1 K mg "BadGame" "BadGame.__init__" (sErr 13) "game") : FnOk P w K mg base (L2.CX P w) 1 R.fI R.fd ["self", "game"] (spErr1 R.C "game") := by
  refine R.F.okX scErr13 (fun vs H Q E h => ?_) (fun cdv A outer s H vs Q E hr h => ?_)
  · obtain ⟨a, y, rfl, _⟩ := h
    rfl
  · obtain ⟨a, y, rfl, ha, k⟩ := h
    exact ⟨_, pss_one (ps_ost (pv 0) (pv 1)), ⟨y, rfl, .ref a, rfl, a, R.C, rfl, R.T, R.no, .inl ⟨ha, fun dx h1 h2 => k dx h1 h2⟩⟩⟩
end
end Q1
set_option Elab.async false
set_option linter.all false
set_option maxRecDepth 100000
set_option maxHeartbeats 4000000
namespace Q1
open PySem L2 LamX
mutual
/-- what stands at a value is one datum -/
theorem Rep.uniq {S S2 : Addr → Prop} {H : Hp} : ∀ {d e : D} {v : V}, Rep S H d v → Rep S2 H e v → d = e
  | .non, e, v, h, k => by
    cases (show v = .non from h)
    cases e with
    | non => rfl
    | bl _ => cases (show V.non = _ from k)
    | int _ => cases (show V.non = _ from k)
    | str _ => cases (show V.non = _ from k)
    | lst _ => obtain ⟨_, _, q, _⟩ := k; cases q
    | tup _ => obtain ⟨_, _, q, _⟩ := k; cases q
    | dic => obtain ⟨_, q, _⟩ := k; cases q
  | .bl b, e, v, h, k => by
    cases (show v = .bl b from h)
    cases e with
    | non => cases (show V.bl b = _ from k)
    | bl _ => cases (show V.bl b = _ from k); rfl
    | int _ => cases (show V.bl b = _ from k)
    | str _ => cases (show V.bl b = _ from k)
    | lst _ => obtain ⟨_, _, q, _⟩ := k; cases q
    | tup _ => obtain ⟨_, _, q, _⟩ := k; cases q
    | dic => obtain ⟨_, q, _⟩ := k; cases q
  | .int b, e, v, h, k => by
    cases (show v = .int b from h)
    cases e with
    | non => cases (show V.int b = _ from k)
    | bl _ => cases (show V.int b = _ from k)
    | int _ => cases (show V.int b = _ from k); rfl
    | str _ => cases (show V.int b = _ from k)
    | lst _ => obtain ⟨_, _, q, _⟩ := k; cases q
    | tup _ => obtain ⟨_, _, q, _⟩ := k; cases q
    | dic => obtain ⟨_, q, _⟩ := k; cases q
  | .str b, e, v, h, k => by
    cases (show v = .str b from h)
    cases e with
    | non => cases (show V.str b = _ from k)
    | bl _ => cases (show V.str b = _ from k)
    | int _ => cases (show V.str b = _ from k)
    | str _ => cases (show V.str b = _ from k); rfl
    | lst _ => obtain ⟨_, _, q, _⟩ := k; cases q
    | tup _ => obtain ⟨_, _, q, _⟩ := k; cases q
    | dic => obtain ⟨_, q, _⟩ := k; cases q
  | .lst xs, e, v, h, k => by
    obtain ⟨a, vs, rfl, _, ha, r⟩ := h
    cases e with
    | non => cases (show V.ref a = _ from k)
    | bl _ => cases (show V.ref a = _ from k)
    | int _ => cases (show V.ref a = _ from k)
    | str _ => cases (show V.ref a = _ from k)
    | lst ys =>
      obtain ⟨b, us, q, _, hb, r2⟩ := k
      cases q
      rw [ha] at hb
      cases hb
      rw [Reps.uniq r r2]
    | tup ys =>
      obtain ⟨b, us, q, hb, r2⟩ := k
      cases q
      rw [ha] at hb
      cases hb
    | dic =>
      obtain ⟨b, q, hb⟩ := k
      cases q
      rw [ha] at hb
      cases hb
  | .tup xs, e, v, h, k => by
    obtain ⟨a, vs, rfl, ha, r⟩ := h
    cases e with
    | non => cases (show V.ref a = _ from k)
    | bl _ => cases (show V.ref a = _ from k)
    | int _ => cases (show V.ref a = _ from k)
    | str _ => cases (show V.ref a = _ from k)
    | lst ys =>
      obtain ⟨b, us, q, _, hb, r2⟩ := k
      cases q
      rw [ha] at hb
      cases hb
    | tup ys =>
      obtain ⟨b, us, q, hb, r2⟩ := k
      cases q
      rw [ha] at hb
      cases hb
      rw [Reps.uniq r r2]
    | dic =>
      obtain ⟨b, q, hb⟩ := k
      cases q
      rw [ha] at hb
      cases hb
  | .dic, e, v, h, k => by
    obtain ⟨a, rfl, ha⟩ := h
    cases e with
    | non => cases (show V.ref a = _ from k)
    | bl _ => cases (show V.ref a = _ from k)
    | int _ => cases (show V.ref a = _ from k)
    | str _ => cases (show V.ref a = _ from k)
    | lst ys =>
      obtain ⟨b, us, q, _, hb, r2⟩ := k
      cases q
      rw [ha] at hb
      cases hb
    | tup ys =>
      obtain ⟨b, us, q, hb, r2⟩ := k
      cases q
      rw [ha] at hb
      cases hb
    | dic => rfl
theorem Reps.uniq {S S2 : Addr → Prop} {H : Hp} : ∀ {ds es : List D} {vs : List V}, Reps S H ds vs → Reps S2 H es vs → ds = es
  | [], es, vs, h, k => by
    cases (show vs = [] from h)
    cases es with
    | nil => rfl
    | cons _ _ => obtain ⟨_, _, q, _⟩ := k; cases q
  | d :: ds, es, vs, h, k => by
    obtain ⟨v, r, rfl, h1, h2⟩ := h
    cases es with
    | nil => cases (show v :: r = [] from k)
    | cons e es =>
      obtain ⟨u, r2, q, k1, k2⟩ := k
      cases q
      rw [Rep.uniq h1 k1, Reps.uniq h2 k2]
end
mutual
/-- a list does not stand within itself -/
theorem Rep.apart {S : Addr → Prop} {H : Hp} {d0 : D} {a : Addr} (h0 : Rep S H d0 (.ref a)) : ∀ {d : D} {v : V}, Rep S H d v → d.sz < d0.sz → Rep (fun b => S b ∧ b ≠ a) H d v
  | .non, _, h, _ => h
  | .bl _, _, h, _ => h
  | .int _, _, h, _ => h
  | .str _, _, h, _ => h
  | .dic, _, h, _ => h
  | .lst xs, v, h, k => by
    have h' := h
    obtain ⟨b, vs, rfl, sb, hb, r⟩ := h
    have k2 : szs xs + 1 < d0.sz := k
    refine ⟨b, vs, rfl, ⟨sb, fun q => ?_⟩, hb, Reps.apart h0 r (by omega)⟩
    subst q
    have := Rep.uniq h' h0
    rw [this] at k
    exact Nat.lt_irrefl _ k
  | .tup xs, v, h, k => by
    obtain ⟨b, vs, rfl, hb, r⟩ := h
    have k2 : szs xs + 1 < d0.sz := k
    exact ⟨b, vs, rfl, hb, Reps.apart h0 r (by omega)⟩
theorem Reps.apart {S : Addr → Prop} {H : Hp} {d0 : D} {a : Addr} (h0 : Rep S H d0 (.ref a)) : ∀ {ds : List D} {vs : List V}, Reps S H ds vs → szs ds < d0.sz → Reps (fun b => S b ∧ b ≠ a) H ds vs
  | [], _, h, _ => h
  | d :: ds, _, h, k => by
    obtain ⟨v, r, rfl, h1, h2⟩ := h
    have k2 : d.sz + szs ds < d0.sz := k
    exact ⟨v, r, rfl, Rep.apart h0 h1 (by omega), Reps.apart h0 h2 (by omega)⟩
end
end Q1
set_option Elab.async false
set_option linter.all false
set_option maxRecDepth 100000
set_option maxHeartbeats 4000000
namespace Q1
open PySem L2 LamX
def lateV (k : Nat) : List V := List.replicate k (.str "late9")
def lateD (k : Nat) : List D := List.replicate k (.str "late9")
mutual
/-- the lists in it, as often as they stand in it -/
def D.nl : D → Nat
  | .lst xs => nls xs + 1
  | .tup xs => nls xs
  | _ => 0
def nls : List D → Nat
  | [] => 0
  | x :: xs => x.nl + nls xs
end
mutual
/-- its lists are no longer than this -/
def D.le (M : Nat) : D → Prop
  | .lst xs => xs.length ≤ M ∧ les M xs
  | .tup xs => les M xs
  | _ => True
def les (M : Nat) : List D → Prop
  | [] => True
  | x :: xs => x.le M ∧ les M xs
end
mutual
/-- its lists have grown, each by K at most -/
def Gr (K : Nat) : D → D → Prop
  | .lst xs, e => ∃ ys k, e = .lst (ys ++ lateD k) ∧ k ≤ K ∧ Grs K xs ys
  | .tup xs, e => ∃ ys, e = .tup ys ∧ Grs K xs ys
  | d, e => e = d
def Grs (K : Nat) : List D → List D → Prop
  | [], ys => ys = []
  | x :: xs, ys => ∃ y r, ys = y :: r ∧ Gr K x y ∧ Grs K xs r
end
theorem Grs.length {K : Nat} : ∀ {xs ys : List D}, Grs K xs ys → ys.length = xs.length
  | [], _, h => by cases h; rfl
  | _ :: _, _, h => by
    obtain ⟨y, r, rfl, _, h2⟩ := h
    rw [List.length_cons, List.length_cons, Grs.length h2]
theorem nls_app : ∀ xs ys : List D, nls (xs ++ ys) = nls xs + nls ys
  | [], ys => by show nls ys = 0 + nls ys; omega
  | x :: xs, ys => by
    show x.nl + nls (xs ++ ys) = x.nl + nls xs + nls ys
    rw [nls_app xs ys]
    omega
theorem nls_late : ∀ k, nls (lateD k) = 0
  | 0 => rfl
  | k + 1 => by
    show 0 + nls (lateD k) = 0
    rw [nls_late k]
theorem les_app {M : Nat} : ∀ {xs ys : List D}, les M xs → les M ys → les M (xs ++ ys)
  | [], _, _, k => k
  | _ :: _, _, h, k => ⟨h.1, les_app h.2 k⟩
theorem les_late {M : Nat} : ∀ k, les M (lateD k)
  | 0 => trivial
  | k + 1 => ⟨trivial, les_late k⟩
theorem oks_app {n : Nat} : ∀ {xs ys : List D}, oks n xs → oks n ys → oks n (xs ++ ys)
  | [], _, _, k => k
  | _ :: _, _, h, k => ⟨h.1, oks_app h.2 k⟩
theorem oks_late {n : Nat} : ∀ k, oks n (lateD k)
  | 0 => trivial
  | k + 1 => ⟨ok_str (by decide +kernel), oks_late k⟩
mutual
theorem Gr.all {K : Nat} : ∀ {n M : Nat} {d e : D}, Gr K d e → d.ok n → d.le M → e.ok n ∧ e.le (M + K) ∧ e.nl = d.nl
  | _, _, .non, _, h, k, l => by cases h; exact ⟨k, trivial, rfl⟩
  | _, _, .bl _, _, h, k, l => by cases h; exact ⟨k, trivial, rfl⟩
  | _, _, .int _, _, h, k, l => by cases h; exact ⟨k, trivial, rfl⟩
  | _, _, .str _, _, h, k, l => by cases h; exact ⟨k, trivial, rfl⟩
  | _, _, .dic, _, _, k, _ => by simp only [D.ok] at k
  | 0, _, .lst _, _, _, k, _ => k.elim
  | 0, _, .tup _, _, _, k, _ => k.elim
  | n + 1, M, .lst xs, _, h, k, l => by
    obtain ⟨ys, j, rfl, hj, g⟩ := h
    obtain ⟨a, b, c⟩ := Grs.all (n := n) (M := M) g k l.2
    refine ⟨oks_app a (oks_late j), ⟨?_, les_app b (les_late j)⟩, ?_⟩
    · rw [List.length_append, g.length]
      have := l.1
      have : (lateD j).length = j := List.length_replicate
      omega
    · show nls (ys ++ lateD j) + 1 = nls xs + 1
      rw [nls_app, nls_late, c]
  | n + 1, M, .tup xs, _, h, k, l => by
    obtain ⟨ys, rfl, g⟩ := h
    exact Grs.all (n := n) (M := M) g k l
theorem Grs.all {K : Nat} : ∀ {n M : Nat} {ds es : List D}, Grs K ds es → oks n ds → les M ds → oks n es ∧ les (M + K) es ∧ nls es = nls ds
  | _, _, [], es, h, _, _ => by cases (show es = [] from h); exact ⟨trivial, trivial, rfl⟩
  | _, _, d :: ds, _, h, k, l => by
    obtain ⟨y, r, rfl, h1, h2⟩ := h
    obtain ⟨a1, b1, c1⟩ := Gr.all h1 k.1 l.1
    obtain ⟨a2, b2, c2⟩ := Grs.all h2 k.2 l.2
    exact ⟨⟨a1, a2⟩, ⟨b1, b2⟩, by show y.nl + nls r = d.nl + nls ds; rw [c1, c2]⟩
end
/-- lists of S have grown, each by K at most, all else stays -/
def Late (S : Addr → Prop) (K : Nat) (H H' : Hp) : Prop := ∀ a o, H a = some o → (∃ vs k, o = .lst vs ∧ S a ∧ k ≤ K ∧ H' a = some (.lst (vs ++ lateV k))) ∨ (¬ (S a ∧ ∃ vs, o = .lst vs) ∧ H' a = some o)
theorem Late.of {S : Addr → Prop} {K : Nat} {H H' : Hp} (h : Same H H') : Late S K H H' := fun a o e => by
  by_cases q : S a ∧ ∃ vs, o = .lst vs
  · obtain ⟨sa, vs, rfl⟩ := q
    exact .inl ⟨vs, 0, rfl, sa, Nat.zero_le _, by rw [h _ _ e]; simp [lateV]⟩
  · exact .inr ⟨q, h _ _ e⟩
theorem Late.trans {S : Addr → Prop} {K K2 : Nat} {H H1 H2 : Hp} (x : Late S K H H1) (y : Late S K2 H1 H2) : Late S (K + K2) H H2 := fun a o e => by
  rcases x a o e with ⟨vs, k, rfl, sa, hk, h1⟩ | ⟨q, h1⟩
  · rcases y a _ h1 with ⟨us, j, e2, _, hj, h2⟩ | ⟨q, _⟩
    · cases e2
      exact .inl ⟨vs, k + j, rfl, sa, by omega, by rw [h2, List.append_assoc, lateV, lateV, lateV, List.replicate_append_replicate]⟩
    · exact absurd ⟨sa, _, rfl⟩ q
  · rcases y a _ h1 with ⟨us, j, e2, sa, hj, h2⟩ | ⟨_, h2⟩
    · exact absurd ⟨sa, us, e2⟩ q
    · exact .inr ⟨q, h2⟩
theorem Late.weak {S S' : Addr → Prop} {K K2 : Nat} {H H' : Hp} (x : Late S K H H') (hS : ∀ a, S a → S' a) (hK : K ≤ K2) : Late S' K2 H H' := fun a o e => by
  rcases x a o e with ⟨vs, k, rfl, sa, hk, h1⟩ | ⟨q, h1⟩
  · exact .inl ⟨vs, k, rfl, hS a sa, by omega, h1⟩
  · by_cases z : S' a ∧ ∃ vs, o = .lst vs
    · obtain ⟨sa, vs, rfl⟩ := z
      exact .inl ⟨vs, 0, rfl, sa, Nat.zero_le _, by rw [h1]; simp [lateV]⟩
    · exact .inr ⟨z, h1⟩
theorem reps_late {S : Addr → Prop} {H : Hp} : ∀ k, Reps S H (lateD k) (lateV k)
  | 0 => rfl
  | k + 1 => ⟨.str "late9", lateV k, rfl, rfl, reps_late k⟩
mutual
theorem Rep.late {S S2 : Addr → Prop} {K : Nat} {H H' : Hp} (x : Late S2 K H H') : ∀ {d : D} {v : V}, Rep S H d v → ∃ e, Gr K d e ∧ Rep S H' e v
  | .non, v, h => ⟨.non, rfl, h⟩
  | .bl b, v, h => ⟨.bl b, rfl, h⟩
  | .int b, v, h => ⟨.int b, rfl, h⟩
  | .str b, v, h => ⟨.str b, rfl, h⟩
  | .dic, v, h => by
    obtain ⟨a, rfl, ha⟩ := h
    rcases x a _ ha with ⟨_, _, q, _⟩ | ⟨_, h1⟩
    · cases q
    · exact ⟨.dic, rfl, a, rfl, h1⟩
  | .lst xs, v, h => by
    obtain ⟨a, vs, rfl, sa, ha, r⟩ := h
    obtain ⟨ys, g, r2⟩ := Reps.late x r
    rcases x a _ ha with ⟨us, k, q, _, hk, h1⟩ | ⟨_, h1⟩
    · cases q
      exact ⟨.lst (ys ++ lateD k), ⟨ys, k, rfl, hk, g⟩, a, _, rfl, sa, h1, Reps.append r2 (reps_late k)⟩
    · exact ⟨.lst ys, ⟨ys, 0, by simp [lateD], Nat.zero_le _, g⟩, a, vs, rfl, sa, h1, r2⟩
  | .tup xs, v, h => by
    obtain ⟨a, vs, rfl, ha, r⟩ := h
    obtain ⟨ys, g, r2⟩ := Reps.late x r
    rcases x a _ ha with ⟨us, k, q, _⟩ | ⟨_, h1⟩
    · cases q
    · exact ⟨.tup ys, ⟨ys, rfl, g⟩, a, vs, rfl, h1, r2⟩
theorem Reps.late {S S2 : Addr → Prop} {K : Nat} {H H' : Hp} (x : Late S2 K H H') : ∀ {ds : List D} {vs : List V}, Reps S H ds vs → ∃ es, Grs K ds es ∧ Reps S H' es vs
  | [], vs, h => ⟨[], rfl, h⟩
  | d :: ds, _, h => by
    obtain ⟨v, r, rfl, h1, h2⟩ := h
    obtain ⟨e, g1, r1⟩ := Rep.late x h1
    obtain ⟨es, g2, r2⟩ := Reps.late x h2
    exact ⟨e :: es, ⟨e, es, rfl, g1, g2⟩, v, r, rfl, r1, r2⟩
end
theorem nls_take_le : ∀ (xs : List D) (i : Nat) (x : D), xs[i]? = some x → nls (xs.take i) + x.nl ≤ nls xs
  | [], _, _, h => by simp at h
  | y :: xs, 0, x, h => by
    cases (show some y = some x from h)
    show 0 + y.nl ≤ y.nl + nls xs
    omega
  | y :: xs, i + 1, x, h => by
    have := nls_take_le xs i x h
    show (y.nl + nls (xs.take i)) + x.nl ≤ y.nl + nls xs
    omega
theorem les_all {M : Nat} : ∀ {ds : List D}, les M ds → ∀ d ∈ ds, d.le M
  | [], _, d, h => by simp at h
  | x :: xs, k, d, h => by
    rcases List.mem_cons.mp h with rfl | h
    · exact k.1
    · exact les_all k.2 d h
end Q1
set_option Elab.async false
set_option linter.all false
set_option maxRecDepth 100000
set_option maxHeartbeats 4000000
namespace Q1
open PySem L2 LamX
section
variable {P : Program} {w : World} {K : PySem.W.Frag} {mg : Str → Option Value} {base : Heap}
/-! ### _law_late -/
abbrev sLate : Stmt := top 41
abbrev nLate : List Str := ["thing", "key", "part"]
theorem scLate : FnScope nLate ["thing"] (defScope sLate) := ⟨rfl, rfl, rfl, by decide +kernel, rfl, by decide +kernel, by decide +kernel⟩
def spLate : Nat → Sp
  | 0 => fun _ _ _ _ => False
  | n + 1 => fun vs H Q _ => ∃ (S : Addr → Prop) (d : D) (v : V) (M : Nat), vs = [v] ∧ Rep S H d v ∧ d.ok n ∧ d.le M ∧ M + d.nl ≤ 1000000 ∧ ∀ H', Late S d.nl H H' → Q .non H'
theorem ok_late (B : Bt mg) (N : Dn K mg "_law_spoiled" sLate ["thing"]) : ∀ n, FnOk P w K mg base CX0 (n + 1) N.f N.fd ["thing"] (spLate n)
  | 0 => ⟨fun vs H Q E h => h.elim, fun A outer s H args us vs Q E hr he hb hv hs => hs.elim⟩
  | n + 1 => by
    have GR : FnOk P w K mg base CX0 (n + 1) N.f N.fd ["thing"] (spLate n) := ok_late B N n
    refine N.F.ok scLate (fun vs H Q E h => ?_) (fun cdv A outer s H vs Q E hr h => ?_)
    · obtain ⟨S, d, v, M, rfl, _⟩ := h
      rfl
    · obtain ⟨S, d, v, M, rfl, hv, hok, hle, hM, k⟩ := h
      refine ⟨_, pss_one (ps_if (pt_val (pe_callB call_isi (by rfl) B.isi PyProof.Rows.boot_isinstance (pa_cons (pv 0) (pa_cons (gt B.dict PyProof.Rows.boot_dict) pa_nil))) (fun _ => rfl)) pss_never
        (pss_one (ps_if (pt_val (pe_callB call_isiT (by rfl) B.isi PyProof.Rows.boot_isinstance (pa_cons (pv 0) (pa_cons (pe_tup (pa_cons (gt B.lst PyProof.Rows.boot_list) (pa_cons (gt B.tup PyProof.Rows.boot_tuple) pa_nil))) pa_nil))) (fun _ => rfl))
          (pss_cons (ps_for PassesOwn.never rfl (pi_seq (pv 0)) (pg_name (i := 2) scLate.nd rfl (Or.inl rfl)) (pss_one (ps_expr (pe_call GR hr (by rfl) N.g N.F.kp N.b .nil pass0 (pa_cons (pv 2) pa_nil)))))
          (pss_one (ps_if (pt_val (pe_callB call_isi (by rfl) B.isi PyProof.Rows.boot_isinstance (pa_cons (pv 0) (pa_cons (gt B.lst PyProof.Rows.boot_list) pa_nil))) (fun _ => rfl))
            (pss_one (ps_expr (pe_bm PySem.F.plainAttrs_list PySem.F.slot_list_append PySem.F.type_list_append mt_append (pv 0) (pa_cons pe_str pa_nil)))) pss_nil))) pss_nil))), ?_⟩
      refine ⟨_, rfl, v, .ty "dict", _, _, _, rfl, .ty "dict", hv.ty (K := K), kit_dic d, _, rfl, ?_⟩
      have hnd : d.isDic = false := by cases d <;> first | rfl | simp only [D.ok] at hok
      rw [hnd]
      refine iteF ?_
      refine ⟨_, rfl, by show 2 ≤ sizeLine; decide, fun p hp => ?_⟩
      have s1 : Same H (upd H p (.tup [.ty "list", .ty "tuple"])) := Same.new hp
      have hp1 : upd H p (.tup [.ty "list", .ty "tuple"]) p = some (.tup [.ty "list", .ty "tuple"]) := upd_same
      generalize upd H p (.tup [.ty "list", .ty "tuple"]) = H1 at s1 hp1 ⊢
      have hv1 := hv.same s1
      refine ⟨_, p, _, _, [.type "list", .type "tuple"], _, rfl, hp1, .cons (.ty "list") (.cons (.ty "tuple") .nil), hv1.ty, kit_list d, _, rfl, ?_⟩
      cases d with
      | lst xs =>
        obtain ⟨j, rfl, hxs⟩ := D.ok_items (d := D.lst xs) (ds := xs) rfl hok
        have hnl : (D.lst xs).nl = nls xs + 1 := rfl
        have hle2 : xs.length ≤ M ∧ les M xs := hle
        have hself := hv1
        obtain ⟨a, vs, rfl, sa, ha, rr⟩ := hv1
        have ra := Reps.apart hself rr (show szs xs < szs xs + 1 by omega)
        have hvl := rr.length
        refine iteT ?_
        refine ⟨_, rfl, a, rfl, .inl ⟨⟨vs, SqL.of ha⟩, for_it (walk_list (K := K) (a := a) (xs := vs)) (fun i σ H' => (∃ o1, σ = [some (.ref a), none, o1]) ∧ Late (fun b => S b ∧ b ≠ a) (nls (xs.take i)) H1 H') ⟨⟨_, rfl⟩, Late.of (fun _ _ e => e)⟩ ?_ ?_ ?_⟩⟩
        · intro i σ H' _ x
          rcases x.2 a _ ha with ⟨_, _, _, q, _⟩ | ⟨_, h1⟩
          · exact absurd rfl q.2
          · exact SqL.of h1
        · rintro i x σ _ H2 _ ⟨⟨o1, rfl⟩, la⟩ ⟨rfl, hx⟩
          obtain ⟨dx, hdx, rx⟩ := ra.get hx
          obtain ⟨e, ge, re⟩ := rx.late la
          have hm := List.mem_of_getElem? hdx
          have htk := nls_take_le xs i dx hdx
          obtain ⟨g1, g2, g3⟩ := ge.all (oks_all hxs dx hm) (les_all hle2.2 dx hm)
          refine ⟨_, rfl, (fun b => S b ∧ b ≠ a), e, x, M + nls (xs.take i), rfl, re, g1, g2, by omega, fun H3 l3 => ⟨⟨_, rfl⟩, ?_⟩⟩
          have := la.trans l3
          rw [g3] at this
          rw [List.take_add_one, hdx, nls_app]
          exact this.weak (fun _ z => z) (by show _ ≤ nls (xs.take i) + (dx.nl + 0); omega)
        · rintro σ H2 ⟨⟨o1, rfl⟩, la⟩
          rw [hvl, List.take_length] at la
          have ha2 : H2 a = some (.lst vs) := by
            rcases la a _ ha with ⟨_, _, _, q, _⟩ | ⟨_, h1⟩
            · exact absurd rfl q.2
            · exact h1
          refine ⟨_, rfl, .ref a, .ty "list", _, _, _, rfl, .ty "list", .base (.lst ha2), kit_lst (.lst xs), _, rfl, ?_⟩
          refine iteT ?_
          refine ⟨_, rfl, .inl ⟨rfl, _, SqL.of ha2⟩, a, vs, .str "late9", rfl, rfl, ha2, Nat.lt_of_lt_of_le (show vs.length < 1000001 by omega) (by decide), ?_⟩
          refine k _ ?_
          have l1 : Late (fun b => S b ∧ b ≠ a) (0 + nls xs) H H2 := (Late.of s1).trans la
          have l2 : Late S 1 H2 (upd H2 a (.lst (vs ++ [.str "late9"]))) := fun b o e => by
            by_cases z : b = a
            · subst z
              rw [ha2] at e
              cases e
              exact .inl ⟨vs, 1, rfl, sa, Nat.le_refl _, upd_same⟩
            · rw [upd_ne z]
              by_cases q : S b ∧ ∃ vs, o = .lst vs
              · obtain ⟨sb, us, rfl⟩ := q
                exact .inl ⟨us, 0, rfl, sb, Nat.zero_le _, by rw [e]; simp [lateV]⟩
              · exact .inr ⟨q, e⟩
          exact ((l1.weak (fun _ z => z.1) (by omega : 0 + nls xs ≤ nls xs)).trans l2).weak (fun _ z => z) (by omega)
      | tup xs =>
        obtain ⟨j, rfl, hxs⟩ := D.ok_items (d := D.tup xs) (ds := xs) rfl hok
        have hnl : (D.tup xs).nl = nls xs := rfl
        have hle2 : les M xs := hle
        obtain ⟨a, vs, rfl, ha, ra⟩ := hv1
        have hvl := ra.length
        refine iteT ?_
        refine ⟨_, rfl, a, rfl, .inr ⟨⟨vs, SqT.of ha⟩, for_it (walk_tup (K := K) (a := a) (xs := vs)) (fun i σ H' => (∃ o1, σ = [some (.ref a), none, o1]) ∧ Late S (nls (xs.take i)) H1 H') ⟨⟨_, rfl⟩, Late.of (fun _ _ e => e)⟩ ?_ ?_ ?_⟩⟩
        · intro i σ H' _ x
          rcases x.2 a _ ha with ⟨_, _, q, _⟩ | ⟨_, h1⟩
          · cases q
          · exact SqT.of h1
        · rintro i x σ _ H2 _ ⟨⟨o1, rfl⟩, la⟩ ⟨rfl, hx⟩
          obtain ⟨dx, hdx, rx⟩ := ra.get hx
          obtain ⟨e, ge, re⟩ := rx.late la
          have hm := List.mem_of_getElem? hdx
          have htk := nls_take_le xs i dx hdx
          obtain ⟨g1, g2, g3⟩ := ge.all (oks_all hxs dx hm) (les_all hle2 dx hm)
          refine ⟨_, rfl, S, e, x, M + nls (xs.take i), rfl, re, g1, g2, by omega, fun H3 l3 => ⟨⟨_, rfl⟩, ?_⟩⟩
          have := la.trans l3
          rw [g3] at this
          rw [List.take_add_one, hdx, nls_app]
          exact this.weak (fun _ z => z) (by show _ ≤ nls (xs.take i) + (dx.nl + 0); omega)
        · rintro σ H2 ⟨⟨o1, rfl⟩, la⟩
          rw [hvl, List.take_length] at la
          have ha2 : H2 a = some (.tup vs) := by
            rcases la a _ ha with ⟨_, _, q, _⟩ | ⟨_, h1⟩
            · cases q
            · exact h1
          refine ⟨_, rfl, .ref a, .ty "list", _, _, _, rfl, .ty "list", .base (.tup ha2), kit_lst (.tup xs), _, rfl, ?_⟩
          refine iteF ?_
          exact k _ (((Late.of (K := 0) s1).trans la).weak (fun _ z => z) (by omega))
      | non => exact iteF (k _ (Late.of s1))
      | bl b => exact iteF (k _ (Late.of s1))
      | int i => exact iteF (k _ (Late.of s1))
      | str z => exact iteF (k _ (Late.of s1))
      | dic => simp only [D.ok] at hok
end
end Q1
set_option Elab.async false
set_option linter.all false
set_option maxRecDepth 100000
set_option maxHeartbeats 4000000
namespace Q1
open PySem L2 LamX
def rTupOf (K : PySem.W.Frag) : List V → Hp → VK → Prop := fun xs H Q => ∃ p ys, xs = [.ref p] ∧ ((SqL K H p ys ∧ ∀ l, H l = none → Q (.ref l) (upd H l (.tup ys))) ∨ (SqT K H p ys ∧ Q (.ref p) H))
theorem call_tupOf {X : Cx} : CallR X (.type "tuple") (rTupOf X.K) := call_tuple_of
section
variable {P : Program} {w : World} {K : PySem.W.Frag} {mg : Str → Option Value} {base : Heap}
/-! ### _law_loose -/
abbrev sLoose : Stmt := top 40
abbrev nLoose : List Str := ["well", "thing", "found", "one"]
theorem scLoose : FnScope nLoose ["well", "thing"] (defScope sLoose) := ⟨rfl, rfl, rfl, by decide +kernel, rfl, by decide +kernel, by decide +kernel⟩
/-- at rank n + 1: data of n storeys at most -/
def spLoose : Nat → Sp
  | 0 => fun _ _ _ _ => False
  | n + 1 => fun vs H Q _ => ∃ (S : Addr → Prop) (s : Addr) (N : Nat) (d : D) (v : V), vs = [.ref s, v] ∧ Strm H s N ∧ N + d.sz < LIM ∧ d.sz ≤ 1000000 ∧ Rep S H d v ∧ ¬ S s ∧ d.ok n ∧
      ∀ H' v' e, SameS s H H' → Rep (fun b => H b = none) H' e v' → Loose d e → Strm H' s (N + d.sz) → Q v' H'
theorem ok_loose (B : Bt mg) (N : Dn K mg "_law_loose" sLoose ["well", "thing"]) (ND : Dn K mg "_law_draw" sDraw ["well", "many"]) : ∀ n, FnOk P w K mg base CX0 (n + 2) N.f N.fd ["well", "thing"] (spLoose n)
  | 0 => ⟨fun vs H Q E h => h.elim, fun A outer s H args us vs Q E hr he hb hv hs => hs.elim⟩
  | n + 1 => by
    have GR : FnOk P w K mg base CX0 (n + 2) N.f N.fd ["well", "thing"] (spLoose n) := ok_loose B N ND n
    have GD : FnOk P w K mg base CX0 1 ND.f ND.fd ["well", "many"] spDraw := ok_draw B ND
    refine N.F.ok scLoose (fun vs H Q E h => ?_) (fun cdv A outer s H vs Q E hr h => ?_)
    · obtain ⟨S, s, M, d, v, rfl, _⟩ := h
      rfl
    · obtain ⟨S, a, M, d, v, rfl, hs, hM, hsz, hd, hS, hok, k⟩ := h
      refine ⟨_, pss_cons (ps_if (pt_val (pe_callB call_isi (by rfl) B.isi PyProof.Rows.boot_isinstance (pa_cons (pv 1) (pa_cons (gt B.dict PyProof.Rows.boot_dict) pa_nil))) (fun _ => rfl)) pss_never pss_nil)
          (pss_cons (ps_if (pt_not (pt_val (pe_callB call_isiT (by rfl) B.isi PyProof.Rows.boot_isinstance (pa_cons (pv 1) (pa_cons (pe_tup (pa_cons (pe_bltn (v := .ty "list") rfl B.lst PyProof.Rows.boot_list rfl) (pa_cons (pe_bltn (v := .ty "tuple") rfl B.tup PyProof.Rows.boot_tuple rfl) pa_nil))) pa_nil))) (fun _ => rfl))) (pss_one (ps_ret (pv 1))) pss_nil)
          (pss_cons (ps_setLc (i := 2) (own := [("one", 3)]) (g := gName 3) (tt := tYes) (te := tCall (spLoose n) [] E0 (tCons (tVar 0) (tCons (tVar 3) tNil))) (by rfl) scLoose.nd rfl rfl (sw_true rfl rfl rfl (by decide +kernel)) (pi_seq (pv 1)) (blkOk_by (own := [("one", 3)]) (N := nLoose) (sc := defScope sLoose) (by decide +kernel)) (fun _ _ _ _ _ => pg_name (i := 3) scLoose.nd rfl (Or.inl rfl)) (fun _ _ _ _ _ => pts_nil)
            (fun _ _ _ _ _ => pe_call GR hr (by rfl) N.g N.F.kp N.b .nil pass0 (pa_cons (pv 0) (pa_cons (pv 3) pa_nil))))
          (pss_one (ps_ret (pe_ifExp (pt_cmpR op_eq (pe_call GD (hr.mono (by omega)) (by rfl) ND.g ND.F.kp ND.b .nil pass0 (pa_cons (pv 0) (pa_cons pe_int pa_nil))) pe_int (nomark _)) (pv 2) (pe_callTy call_tupOf (by rfl) B.tup PyProof.Rows.boot_tuple (pa_cons (pv 2) pa_nil))))))), ?_⟩
      refine ⟨_, rfl, v, .ty "dict", _, _, _, rfl, .ty "dict", hd.ty (K := K), kit_dic d, _, rfl, ?_⟩
      have hnd : d.isDic = false := by cases d <;> first | rfl | simp only [D.ok] at hok
      rw [hnd]
      refine iteF ?_
      refine ⟨_, rfl, by show 2 ≤ sizeLine; decide, fun p hp => ?_⟩
      have s1 : Same H (upd H p (.tup [.ty "list", .ty "tuple"])) := Same.new hp
      have hp1 : upd H p (.tup [.ty "list", .ty "tuple"]) p = some (.tup [.ty "list", .ty "tuple"]) := upd_same
      generalize upd H p (.tup [.ty "list", .ty "tuple"]) = H1 at s1 hp1 ⊢
      have hd1 := hd.same s1
      have hs1 := hs.same s1
      obtain ⟨u0, hu0⟩ := hs.lst
      obtain ⟨u1, hu1⟩ := hs1.lst
      refine ⟨_, p, _, _, [.type "list", .type "tuple"], _, rfl, hp1, .cons (.ty "list") (.cons (.ty "tuple") .nil), hd1.ty, kit_list d, _, rfl, ?_⟩
      cases hi : d.items? with
      | none =>
        have e0 : d.isList = false := by unfold D.isList; rw [hi]; rfl
        rw [e0]
        obtain ⟨f1, f2⟩ := leaf_of hi
        exact iteT ⟨_, rfl, k H1 v d (SameS.of s1) (hd1.free f1) f2 (hs1.mono (by omega))⟩
      | some ds =>
        have e0 : d.isList = true := by unfold D.isList; rw [hi]; rfl
        rw [e0]
        obtain ⟨j, rfl, hds⟩ := D.ok_items hi hok
        have hsz2 := D.sz_items hi
        obtain ⟨l, us, rfl, hq, rr⟩ := hd1.seq (K := K) hi
        have nla : l ≠ a := hd1.ne hi hu1 hS
        have hul : us.length = ds.length := rr.length
        have hdl := szs_len ds
        refine iteF ?_
        refine ⟨_, rfl, l, rfl, lc_seqG hq (fun D0 i H' => SameS a H1 H' ∧ ∃ (vs : List V) (es : List D), H' D0 = some (.lst vs) ∧ Reps (fun b => H b = none ∧ b ≠ D0) H' es vs ∧ Looses (ds.take i) es ∧ Strm H' a (M + szs (ds.take i)))
          (fun D0 hD => ⟨(SameS.refl H1).new hD, [], [], upd_same, rfl, rfl, hs1.same (Same.new hD)⟩) (fun D0 i H' x q => x.1.seqL nla q) (fun D0 i H' x q => x.1.seqT nla q) ?_ ?_⟩
        · rintro D0 hD i x H' hx ⟨sm', vs, es, hv, hr, hl, hst⟩
          have nDa : D0 ≠ a := fun z => by rw [z, hu1] at hD; cases hD
          have hDH : H D0 = none := by
            cases z : H D0 with
            | none => rfl
            | some o => rw [s1 _ _ z] at hD; cases hD
          obtain ⟨dx, hdx, hrx⟩ := (sameS_reps sm' hs1 hS rr).get hx
          have hlt : i < us.length := (List.getElem?_eq_some_iff.mp hx).1
          have et : ds.take (i + 1) = ds.take i ++ [dx] := by rw [List.take_add_one, hdx]; rfl
          have es1 := szs_take ds (i + 1)
          rw [et, szs_snoc] at es1
          have hln := hr.length
          refine ⟨rfl, ?_⟩
          refine ⟨_, rfl, _, rfl, S, a, M + szs (ds.take i), dx, x, rfl, hst, by omega, by omega, hrx, hS, oks_all hds dx (List.mem_of_getElem? hdx), fun H2 v' e sm2 re le hs2 => ?_⟩
          have hv2 := sm2 D0 _ nDa hv
          have st : ∀ o, Stay (fun b => H b = none ∧ b ≠ D0) H2 (upd H2 D0 o) := fun o => stay_upd hv2 (nd_lst fun z => z.2 rfl)
          have n0 : ¬ (fun b => H b = none ∧ b ≠ D0) a := fun z => by
            have z1 : H a = none := z.1
            rw [hu0] at z1
            cases z1
          refine ⟨vs, hv2, Nat.lt_of_lt_of_le (show vs.length < 1000001 by
            have q1 := hl.length
            rw [List.length_take] at q1
            omega) (by decide), (sm'.trans sm2).at hD, vs ++ [v'], es ++ [e], upd_same, ?_, ?_, ?_⟩
          · refine Reps.append (Reps.mono (fun _ z => z) (st _) (sameS_reps sm2 hst n0 hr)) (Reps.one (Rep.mono (fun _ z => z) (st _) (Rep.mono (fun b z => ⟨?_, fun q => ?_⟩) (fun _ _ e _ => e) re)))
            · exact sameS_back ((SameS.of s1).trans sm') hst z
            · have z1 : H' b = none := z
              rw [q, hv] at z1
              cases z1
          · rw [et]
            exact hl.snoc le
          · rw [et, szs_snoc]
            exact (hs2.mono (by omega)).at nDa
        · rintro D0 hD H' ⟨sm', vs, es, hv, hr, hl, hst⟩
          have nDa : D0 ≠ a := fun z => by rw [z, hu1] at hD; cases hD
          have hDH : H D0 = none := by
            cases z : H D0 with
            | none => rfl
            | some o => rw [s1 _ _ z] at hD; cases hD
          rw [hul, List.take_length] at hl hst
          refine tSeq_two (R := fun σ H3 => (∃ o5, σ = [some (.ref a), some (.ref l), some (.ref D0), o5]) ∧ H' = H3) (fun D' hD => hD _ _ ⟨⟨_, rfl⟩, rfl⟩) ?_
          rintro σ H3 ⟨⟨o5, rfl⟩, e3⟩
          subst e3
          refine ⟨_, rfl, a, M + szs ds, 2, rfl, hst, by omega, by decide, by decide, fun u dd hdd hs3 => ⟨rfl, _, rfl, ?_⟩⟩
          have sm3 : SameS a H (upd H' a (.lst u)) := ((SameS.of s1).trans sm').upd
          have smx : SameS a H' (upd H' a (.lst u)) := (SameS.refl H').upd
          have n0 : ¬ (fun b => H b = none ∧ b ≠ D0) a := fun z => by
            have z1 : H a = none := z.1
            rw [hu0] at z1
            cases z1
          have hv3 := smx D0 _ nDa hv
          have hr3 := sameS_reps smx hst n0 hr
          generalize upd H' a (.lst u) = H4 at sm3 smx hv3 hr3 hs3 ⊢
          refine ite2 (fun h => ?_) (fun h => ?_)
          · exact ⟨_, rfl, k H4 (.ref D0) (.lst es) sm3 ⟨D0, vs, rfl, hDH, hv3, Reps.mono (fun _ z => z.1) (fun _ _ e _ => e) hr3⟩ (Loose.of_items hi rfl hl) (hs3.mono (by omega))⟩
          · refine ⟨_, rfl, D0, vs, rfl, .inl ⟨SqL.of hv3, fun q hq => ?_⟩⟩
            have sq : Same H4 (upd H4 q (.tup vs)) := Same.new hq
            exact k _ (.ref q) (.tup es) (sm3.new hq) ⟨q, vs, rfl, upd_same, Reps.mono (fun _ z => z.1) (stay_of sq) hr3⟩ (Loose.of_items hi rfl hl) ((hs3.mono (by omega)).same sq)
end
end Q1
set_option Elab.async false
set_option linter.all false
set_option maxRecDepth 100000
set_option maxHeartbeats 4000000
namespace Q1
open PySem L2 LamX
section
variable {P : Program} {w : World} {K : PySem.W.Frag} {mg : Str → Option Value} {base : Heap}
/-! ### are_pairs -/
abbrev sAp : Stmt := top 15
abbrev nAp : List Str := ["thing", "one"]
theorem scAp : FnScope nAp ["thing"] (defScope sAp) := ⟨rfl, rfl, rfl, by decide +kernel, rfl, by decide +kernel, by decide +kernel⟩
def pairB (d : D) : Bool := match d.items? with
  | some [a, _] => a.isName
  | _ => false
def pairsB (d : D) : Bool := match d.items? with
  | some xs => xs.all pairB
  | none => false
/-- every text in it is short -/
def shortL (ds : List D) : Prop := ∀ d ∈ ds, ∀ xs, d.items? = some xs → ∀ x ∈ xs, x.short
theorem isOf_two {d : D} (h : d.isOf 2 = true) : ∃ a b, d.items? = some [a, b] := by
  unfold D.isOf at h
  cases e : d.items? with
  | none => rw [e] at h; cases h
  | some xs =>
    rw [e] at h
    match xs, h with
    | [p, q], _ => exact ⟨p, q, rfl⟩
    | [], h => cases h
    | [_], h => cases h
    | _ :: _ :: _ :: _, h => simp at h
theorem isOf_not {d : D} (h : d.isOf 2 = false) : pairB d = false := by
  unfold D.isOf at h
  unfold pairB
  cases e : d.items? with
  | none => rfl
  | some xs =>
    rw [e] at h
    match xs, h with
    | [p, q], h => cases h
    | [], _ => rfl
    | [_], _ => rfl
    | _ :: _ :: _ :: _, _ => rfl
def spAp : Sp := fun vs H Q _ => ∃ (S : Addr → Prop) (d : D) (v : V), vs = [v] ∧ Rep S H d v ∧ d.small ∧ (∀ ds, d.items? = some ds → shortL ds) ∧ ∀ H', Same H H' → Q (.bl (pairsB d)) H'
theorem ok_ap (B : Bt mg) (C : Cs mg) (N : Dn K mg "are_pairs" sAp ["thing"]) (NL : Dn K mg "is_list" sIsList ["thing"]) (NT : Dn K mg "is_tuple_of" sIsTupleOf ["thing", "length"]) (NN : Dn K mg "is_name" sIsName ["thing"]) : FnOk P w K mg base CX0 3 N.f N.fd ["thing"] spAp := by
  have GL : FnOk P w K mg base CX0 1 NL.f NL.fd ["thing"] spIsList := ok_isList B NL
  have GT : FnOk P w K mg base CX0 2 NT.f NT.fd ["thing", "length"] spIsTupleOf := ok_isTupleOf B NT NL
  have GN : FnOk P w K mg base CX0 1 NN.f NN.fd ["thing"] spIsName := ok_isName B C NN
  refine N.F.ok scAp (fun vs H Q E h => ?_) (fun cdv A outer s H vs Q E hr h => ?_)
  · obtain ⟨S, d, v, rfl, _⟩ := h
    rfl
  · obtain ⟨S, d, v, rfl, hd, sm, sh, k⟩ := h
    refine ⟨_, pss_one (ps_ret (pe_and (pe_call GL (hr.mono (by decide)) (by rfl) NL.g NL.F.kp NL.b .nil pass0 (pa_cons (pv 0) pa_nil))
      (pe_one (pe_callB (cr_all rfl) (by rfl) B.all PyProof.Rows.boot_all (pa_cons
        (pe_lc (own := [("one", 1)]) (g := gName 1) (tt := tYes) (te := tAndV (tCall spIsTupleOf [] E0 (tCons (tVar 1) (tCons (tC (.int 2)) tNil))) (tCall spIsName [] E0 (tCons (tOp (rSeqA K) (tVar 1) (tC (.int 0))) tNil))) rfl scAp.nd (pi_seq (pv 0)) (blkOk_by (own := [("one", 1)]) (N := nAp) (sc := defScope sAp) (by decide +kernel))
          (fun _ _ _ _ _ => pg_name (i := 1) scAp.nd rfl (Or.inl rfl)) (fun _ _ _ _ _ => pts_nil)
          (fun _ _ _ _ _ => pe_and (pe_call GT (hr.mono (by decide)) (by rfl) NT.g NT.F.kp NT.b .nil pass0 (pa_cons (pv 1) (pa_cons pe_int pa_nil))) (pe_one (pe_call GN (hr.mono (by decide)) (by rfl) NN.g NN.F.kp NN.b .nil pass0 (pa_cons (pe_ix ix_seqA (pv 1) pe_int (fun _ _ => rfl)) pa_nil))))) pa_nil))))), ?_⟩
    refine ⟨_, rfl, S, d, v, rfl, hd, fun H1 s1 => ⟨_, rfl, ?_⟩⟩
    cases hi : d.items? with
    | none =>
      have e1 : d.isList = false := by unfold D.isList; rw [hi]; rfl
      have e2 : pairsB d = false := by unfold pairsB; rw [hi]
      rw [e1]
      refine iteF ?_
      rw [← e2]
      exact k H1 s1
    | some ds =>
      have e1 : d.isList = true := by unfold D.isList; rw [hi]; rfl
      have hsm : ds.length ≤ 1000 := by unfold D.small at sm; rw [hi] at sm; exact sm
      have hsh := sh ds hi
      rw [e1]
      refine iteT ?_
      obtain ⟨a, us, rfl, hq, rr⟩ := (hd.same s1).seq (K := K) hi
      have hus : us.length = ds.length := rr.length
      refine ⟨_, rfl, a, rfl, lc_seq (ExtN.refl H1) hq (fun D0 i H' => Same H1 H' ∧ H' D0 = some (.lst (((ds.take i).map pairB).map V.bl))) (fun D0 hD => ⟨Same.new hD, upd_same⟩) (fun D0 i H' h => extN_of h.1) ?_ ?_⟩
      · rintro D0 hD i x H' hx ⟨sm', hz⟩
        have hsl : i < us.length := (List.getElem?_eq_some_iff.mp hx).1
        obtain ⟨dx, hdx, hrx⟩ := (rr.same sm').get hx
        refine ⟨rfl, ?_⟩
        unfold tYes
        refine iteT ?_
        have fin : ∀ H3, Same H' H3 → ∀ b, pairB dx = b → ∃ acc, H3 D0 = some (.lst acc) ∧ acc.length < sizeLine ∧ Same H1 (upd H3 D0 (.lst (acc ++ [.bl b]))) ∧ upd H3 D0 (.lst (acc ++ [.bl b])) D0 = some (.lst (((ds.take (i + 1)).map pairB).map V.bl)) := fun H3 s3 b hb => by
          refine ⟨_, s3 _ _ hz, ?_, Same.at (sm'.trans s3) hD, ?_⟩
          · rw [List.length_map, List.length_map, List.length_take]
            exact Nat.lt_of_le_of_lt (show min i ds.length ≤ 1000 by omega) (by decide)
          · rw [upd_same, List.take_add_one, hdx, List.map_append, List.map_append, ← hb]
            rfl
        refine ⟨_, rfl, S, dx, x, 2, rfl, hrx, fun H2 s2 => ⟨_, rfl, ?_⟩⟩
        cases e5 : dx.isOf 2 with
        | false =>
          refine iteF ?_
          exact fin H2 s2 false (isOf_not e5)
        | true =>
          refine iteT ?_
          obtain ⟨p, q, e6⟩ := isOf_two e5
          obtain ⟨b, vs2, rfl, hq2, r2⟩ := (hrx.same s2).seq (K := K) e6
          obtain ⟨vp, r3, rfl, hp, vq, r4, rfl, hqq, rfl⟩ := r2
          refine ⟨_, rfl, b, _, 0, vp, rfl, rfl, hq2, atI_nat (j := 0) rfl, S, p, vp, rfl, hp, hsh dx (List.mem_of_getElem? hdx) _ e6 p List.mem_cons_self, fun H3 s3 => ?_⟩
          exact fin H3 (s2.trans s3) _ (by unfold pairB; rw [e6])
      · rintro D0 hD H' ⟨sm', hz⟩
        refine ⟨D0, _, rfl, SqL.of hz, ?_⟩
        rw [hus, List.take_length]
        have e : ((ds.map pairB).all id) = pairsB d := by
          unfold pairsB
          rw [hi, List.all_map]
          rfl
        rw [e]
        exact k H' (s1.trans sm')
end
end Q1
set_option Elab.async false
set_option linter.all false
set_option maxRecDepth 100000
set_option maxHeartbeats 4000000
namespace Q1
open PySem L2 LamX
section
variable {P : Program} {w : World} {K : PySem.W.Frag} {mg : Str → Option Value} {base : Heap}
/-! ### names_of_game -/
abbrev sNg : Stmt := top 19
abbrev nNg : List Str := ["game", "one"]
theorem scNg : FnScope nNg ["game"] (defScope sNg) := ⟨rfl, rfl, rfl, by decide +kernel, rfl, by decide +kernel, by decide +kernel⟩
def firstS (d : D) : Str := match d.items? with
  | some (.str m :: _) => m
  | _ => ""
/-- the names of pairs -/
def nmsP (d : D) : List Str := match d.items? with
  | some xs => xs.map firstS
  | none => []
/-- its first thing is a text -/
def fstB (d : D) : Bool := match d.items? with
  | some (.str _ :: _) => true
  | _ => false
theorem pair_fst {d : D} (h : pairB d = true) : fstB d = true := by
  unfold pairB at h
  unfold fstB
  cases e : d.items? with
  | none => rw [e] at h; cases h
  | some xs =>
    rw [e] at h
    match xs, h with
    | [.str m, _], _ => rfl
    | [.non, _], h => cases h
    | [.bl _, _], h => cases h
    | [.int _, _], h => cases h
    | [.lst _, _], h => cases h
    | [.tup _, _], h => cases h
    | [.dic, _], h => cases h
theorem fst_items {d : D} (h : fstB d = true) : ∃ m r, d.items? = some (.str m :: r) ∧ firstS d = m := by
  unfold fstB at h
  unfold firstS
  cases e : d.items? with
  | none => rw [e] at h; cases h
  | some xs =>
    rw [e] at h
    match xs, h with
    | .str m :: r, _ => exact ⟨m, r, rfl, rfl⟩
/-- a list of the names of pairs -/
theorem lc_names {S : Addr → Prop} {H1 : Hp} {g : V} {Q : VK} {d : D} {ds : List D} {v : V} {te : TE} (hd : Rep S H1 d v) (hi : d.items? = some ds) (hf : ∀ x ∈ ds, fstB x = true) (hn : ds.length ≤ 1000)
    (ht : ∀ R : VK, R v H1 → te [some g, none] H1 R) (k : ∀ H' L, Same H1 H' → H1 L = none → H' L = some (.lst ((ds.map firstS).map V.str)) → Q (.ref L) H') :
    tLc (iSeq K te) (gName 1) tYes (tOp (rSeqA K) (tVar 1) (tC (.int 0))) [1] [some g, none] H1 Q := by
  obtain ⟨a, us, rfl, hq, rr⟩ := hd.seq (K := K) hi
  have hus : us.length = ds.length := rr.length
  refine ht _ ⟨a, rfl, lc_seq (ExtN.refl H1) hq (fun D0 i H' => Same H1 H' ∧ H' D0 = some (.lst (((ds.take i).map firstS).map V.str))) (fun D0 hD => ⟨Same.new hD, upd_same⟩) (fun D0 i H' h => extN_of h.1) ?_ ?_⟩
  · rintro D0 hD i x H' hx ⟨sm', hz⟩
    have hsl : i < us.length := (List.getElem?_eq_some_iff.mp hx).1
    obtain ⟨dx, hdx, hrx⟩ := (rr.same sm').get hx
    obtain ⟨m, r, e6, em⟩ := fst_items (hf dx (List.mem_of_getElem? hdx))
    obtain ⟨b, vs2, rfl, hq2, r2⟩ := hrx.seq (K := K) e6
    obtain ⟨vp, r3, rfl, hp, _⟩ := r2
    cases (show vp = .str m from hp)
    refine ⟨rfl, ?_⟩
    unfold tYes
    refine iteT ?_
    refine ⟨_, rfl, b, _, 0, _, rfl, rfl, hq2, atI_nat (j := 0) rfl, _, hz, ?_, Same.at sm' hD, ?_⟩
    · rw [List.length_map, List.length_map, List.length_take]
      exact Nat.lt_of_le_of_lt (show min i ds.length ≤ 1000 by omega) (by decide)
    · rw [upd_same, List.take_add_one, hdx, List.map_append, List.map_append, ← em]
      rfl
  · rintro D0 hD H' ⟨sm', hz⟩
    rw [hus, List.take_length] at hz
    exact k H' D0 sm' hD hz
/-- the names of a game's marks -/
def nmsG (d : D) : List Str := match d.items? with
  | some (a :: b :: _) => nmsP a ++ nmsP b
  | _ => []
def spNg : Sp := fun vs H Q _ => ∃ (S : Addr → Prop) (d da db : D) (r : List D) (as bs : List D) (v : V), vs = [v] ∧ Rep S H d v ∧ d.items? = some (da :: db :: r) ∧ da.items? = some as ∧ db.items? = some bs ∧ (∀ x ∈ as, fstB x = true) ∧ (∀ x ∈ bs, fstB x = true) ∧ as.length ≤ 500 ∧ bs.length ≤ 500 ∧
  ∀ H' L, Same H H' → H L = none → H' L = some (.lst ((nmsG d).map V.str)) → Q (.ref L) H'
theorem ok_ng (N : Dn K mg "names_of_game" sNg ["game"]) : FnOk P w K mg base CX0 1 N.f N.fd ["game"] spNg := by
  refine N.F.ok scNg (fun vs H Q E h => ?_) (fun cdv A outer s H vs Q E hr h => ?_)
  · obtain ⟨S, d, da, db, r, as, bs, v, rfl, _⟩ := h
    rfl
  · obtain ⟨S, d, da, db, r, as, bs, v, rfl, hd, hi, ha, hb, fa, fb, la, lb, k⟩ := h
    refine ⟨_, pss_one (ps_ret (pe_op op_cat
        (pe_lc (own := [("one", 1)]) (g := gName 1) (tt := tYes) (te := tOp (rSeqA K) (tVar 1) (tC (.int 0))) rfl scNg.nd (pi_seq (pe_ix ix_seqA (pv 0) pe_int (fun _ _ => rfl))) (blkOk_by (own := [("one", 1)]) (N := nNg) (sc := defScope sNg) (by decide +kernel))
          (fun _ _ _ _ _ => pg_name (i := 1) scNg.nd rfl (Or.inl rfl)) (fun _ _ _ _ _ => pts_nil) (fun _ _ _ _ _ => pe_ix ix_seqA (pv 1) pe_int (fun _ _ => rfl)))
        (pe_lc (own := [("one", 1)]) (g := gName 1) (tt := tYes) (te := tOp (rSeqA K) (tVar 1) (tC (.int 0))) rfl scNg.nd (pi_seq (pe_ix ix_seqA (pv 0) pe_int (fun _ _ => rfl))) (blkOk_by (own := [("one", 1)]) (N := nNg) (sc := defScope sNg) (by decide +kernel))
          (fun _ _ _ _ _ => pg_name (i := 1) scNg.nd rfl (Or.inl rfl)) (fun _ _ _ _ _ => pts_nil) (fun _ _ _ _ _ => pe_ix ix_seqA (pv 1) pe_int (fun _ _ => rfl))))), ?_⟩
    obtain ⟨g, us, rfl, hq, rr⟩ := id (hd.seq (K := K) hi)
    obtain ⟨va, _, rfl, ra, vb, r4, rfl, rb, rc⟩ := rr
    have eg : nmsG d = as.map firstS ++ bs.map firstS := by
      unfold nmsG nmsP
      rw [hi]
      dsimp only
      rw [ha, hb]
    show tLc (iSeq K (tOp (rSeqA K) (tVar 0) (tC (.int 0)))) (gName 1) tYes (tOp (rSeqA K) (tVar 1) (tC (.int 0))) [1] [some (.ref g), none] H (fun x H1 => tLc (iSeq K (tOp (rSeqA K) (tVar 0) (tC (.int 1)))) (gName 1) tYes (tOp (rSeqA K) (tVar 1) (tC (.int 0))) [1] [some (.ref g), none] H1 (fun y H2 => rCat x y H2 Q))
    refine lc_names (S := S) (H1 := H) (g := .ref g) ra ha fa (by omega) (fun R h => ⟨_, rfl, g, _, 0, va, rfl, rfl, hq, atI_nat (j := 0) rfl, h⟩) fun H1 L1 s1 n1 h1 => ?_
    have hq1 : SqL K H1 g (va :: vb :: r4) ∨ SqT K H1 g (va :: vb :: r4) := hq.elim (fun h => .inl (s1.seq h)) (fun h => .inr (seqT_same s1 h))
    refine lc_names (S := S) (H1 := H1) (g := .ref g) (rb.same s1) hb fb (by omega) (fun R h => ⟨_, rfl, g, _, 1, vb, rfl, rfl, hq1, atI_nat (j := 1) rfl, h⟩) fun H2 L2 s2 n2 h2 => ?_
    refine ⟨L1, L2, _, _, rfl, rfl, s2 _ _ h1, h2, ?_, fun L hL => ?_⟩
    · rw [List.length_map, List.length_map, List.length_map, List.length_map]
      exact Nat.le_trans (show as.length + bs.length ≤ 1000 by omega) (by decide)
    · refine k _ L ((s1.trans s2).trans (Same.new hL)) ((s1.trans s2).free hL) ?_
      rw [upd_same, eg, List.map_append]
end
end Q1
set_option Elab.async false
set_option linter.all false
set_option maxRecDepth 100000
set_option maxHeartbeats 4000000
namespace Q1
open PySem L2 LamX
theorem placesF_keys : ∀ (n : Nat) (names : List Str), (placesF n names).map Prod.fst = names.map Sum.inr
  | _, [] => rfl
  | n, m :: ms => by
    show Sum.inr m :: (placesF (n + 1) ms).map Prod.fst = _
    rw [placesF_keys]
    rfl
theorem placesF_snoc : ∀ (n : Nat) (names : List Str) (m : Str), placesF n (names ++ [m]) = placesF n names ++ [(Sum.inr m, V.int ((n + names.length : Nat) : Int))]
  | n, [], m => rfl
  | n, x :: xs, m => by
    show (Sum.inr x, V.int (n : Nat)) :: placesF (n + 1) (xs ++ [m]) = _
    rw [placesF_snoc, List.length_cons, show n + 1 + xs.length = n + (xs.length + 1) by omega]
    rfl
theorem placesF_put (names : List Str) (m : Str) (h : ¬ m ∈ names) : putK (placesF 0 names) (Sum.inr m) (V.int ((names.length : Nat) : Int)) = placesF 0 (names ++ [m]) := by
  have h1 : ((placesF 0 names).any fun kv => decide (kv.1 = Sum.inr m)) = false := by
    rw [List.any_eq_false]
    intro p hp
    have : p.1 ∈ (placesF 0 names).map Prod.fst := List.mem_map_of_mem hp
    rw [placesF_keys] at this
    obtain ⟨x, hx, hx2⟩ := List.mem_map.mp this
    intro z
    have z := of_decide_eq_true z
    rw [← hx2] at z
    cases z
    exact h hx
  rw [placesF_snoc, Nat.zero_add]
  unfold putK
  simp only [h1]
  rfl
theorem dc_it {J : It} {n : Nat} {G : Hp → Prop} {Y : Nat → Hp → V → Hp → Prop} (w : Walk J n G Y) {g : TG} {tt : TT} {tk tv : TE} {vs : List Nat} {σ : L2.St} {H1 : Hp} {D : Addr} {Qd : Hp → Prop} (Pv : Nat → Hp → Prop) (h0 : Pv 0 (upd H1 D (.dK []))) (hG : ∀ i H, i ≤ n → Pv i H → G H)
    (hs : ∀ i x H H', i < n → Pv i H → Y i H x H' → g x (wipe σ vs) H' fun σ2 H2 => wipe σ2 vs = wipe σ vs ∧ tt σ2 H2 fun b H3 =>
      if b = true then tk σ2 H3 fun y H4 => tv σ2 H4 fun z H5 => ∃ kvs k, y = kV k ∧ H5 D = some (.dK kvs) ∧ kvs.length < sizeLine ∧ Pv (i + 1) (upd H5 D (.dK (putK kvs k z))) else Pv (i + 1) H3) (hd : ∀ H, Pv n H → Qd H) :
    ∃ W : Nat → Nat → Hp → Prop, (∃ m, W 0 m (upd H1 D (.dK []))) ∧ ∀ i m H, W i m H →
      (J.stop i H ∧ Qd H) ∨ (J.go i H ∧ ∃ Nx : Hp → Prop, (∀ H', Nx H' → ∃ m', m' < m ∧ W (i + 1) m' H') ∧ ∀ x H', J.yld i H x H' → g x (wipe σ vs) H' fun σ2 H2 => wipe σ2 vs = wipe σ vs ∧ tt σ2 H2 fun b H3 =>
        if b = true then tk σ2 H3 fun y H4 => tv σ2 H4 fun z H5 => ∃ kvs k, y = kV k ∧ H5 D = some (.dK kvs) ∧ kvs.length < sizeLine ∧ Nx (upd H5 D (.dK (putK kvs k z))) else Nx H3) := by
  refine ⟨fun i m H => m = n - i ∧ i ≤ n ∧ Pv i H, ⟨n, by simp, Nat.zero_le _, h0⟩, ?_⟩
  rintro i m H ⟨rfl, hi, p⟩
  have q := hG i H hi p
  by_cases hlt : i < n
  · refine .inr ⟨w.goes i H hlt q, Pv (i + 1), fun H' p' => ⟨n - (i + 1), by omega, rfl, hlt, p'⟩, fun x H' y => hs i x H H' hlt p (w.yields i H x H' hlt q y)⟩
  · have e : i = n := by omega
    subst e
    exact .inl ⟨w.stops H q, hd H p⟩

theorem nodup_at {names : List Str} (nd : names.Nodup) {i : Nat} {m : Str} (h : names[i]? = some m) : ¬ m ∈ names.take i := fun z => by
  have hil : i < names.length := (List.getElem?_eq_some_iff.mp h).1
  have e1 : names = names.take i ++ names.drop i := (List.take_append_drop i names).symm
  rw [e1, List.nodup_append] at nd
  refine nd.2.2 _ z m ?_ rfl
  have : names.drop i = m :: names.drop (i + 1) := by
    rw [List.drop_eq_getElem_cons hil]
    congr 1
    have := List.getElem?_eq_getElem hil
    rw [h] at this
    exact (Option.some.inj this).symm
  rw [this]
  exact List.mem_cons_self
section
variable {P : Program} {w : World} {K : PySem.W.Frag} {mg : Str → Option Value} {base : Heap}
/-! ### are_clauses -/
abbrev sAc : Stmt := top 16
abbrev nAc : List Str := ["names", "thing", "places", "place", "name", "clause"]
theorem scAc : FnScope nAc ["names", "thing"] (defScope sAc) := ⟨rfl, rfl, rfl, by decide +kernel, rfl, by decide +kernel, by decide +kernel⟩
def clausesB (names : List Str) (d : D) : Bool := match d.items? with
  | some xs => xs.all fun c => (litsOf names c).isSome
  | none => false
def spAc : Sp := fun vs H Q _ => ∃ (S : Addr → Prop) (d : D) (v : V) (l : Addr) (names : List Str), vs = [.ref l, v] ∧ H l = some (.lst (names.map V.str)) ∧ names.Nodup ∧ names.length ≤ 1000 ∧ Rep S H d v ∧ d.small ∧ (∀ ds, d.items? = some ds → ∀ x ∈ ds, x.small) ∧
  ∀ H', Same H H' → Q (.bl (clausesB names d)) H'
theorem ok_ac (B : Bt mg) (N : Dn K mg "are_clauses" sAc ["names", "thing"]) (NL : Dn K mg "is_list" sIsList ["thing"]) (NT : Dn K mg "is_tuple_of" sIsTupleOf ["thing", "length"]) (NLi : Dn K mg "literal_list" sLits ["places", "thing"]) : FnOk P w K mg base CX0 4 N.f N.fd ["names", "thing"] spAc := by
  have GL : FnOk P w K mg base CX0 1 NL.f NL.fd ["thing"] spIsList := ok_isList B NL
  have GLi : FnOk P w K mg base CX0 3 NLi.f NLi.fd ["places", "thing"] spLits := ok_lits B NLi NL NT
  refine N.F.ok scAc (fun vs H Q E h => ?_) (fun cdv A outer s H vs Q E hr h => ?_)
  · obtain ⟨S, d, v, l, names, rfl, _⟩ := h
    rfl
  · obtain ⟨S, d, v, l, names, rfl, hl, nd, hn, hd, sm, sh, k⟩ := h
    refine ⟨_, pss_cons (ps_asg (pe_dc (own := [("place", 3), ("name", 4)]) (g := gTup K 2 (gCons (gName 3) (gCons (gName 4) gNil))) (tt := tYes) (tk := tVar 4) (tv := tVar 3) rfl scAc.nd (pi_enum (by rfl) B.enumerate (pa_cons (pv 0) pa_nil)) (blkOk_by (own := [("place", 3), ("name", 4)]) (N := nAc) (sc := defScope sAc) (by decide +kernel))
          (fun _ _ _ _ _ => pg_tup (by rfl) (pgs_cons (pg_name (i := 3) scAc.nd (by rfl) (Or.inl (by rfl)) (by exact .inr rfl)) (pgs_cons (pg_name (i := 4) scAc.nd (by rfl) (Or.inl (by rfl)) (by exact .inr rfl)) pgs_nil))) (fun _ _ _ _ _ => pts_nil) (fun _ _ _ _ _ => pv 4) (fun _ _ _ _ _ => pv 3)) (pg_name (i := 2) scAc.nd rfl (Or.inr rfl)))
      (pss_one (ps_ret (pe_and (pe_call GL (hr.mono (by decide)) (by rfl) NL.g NL.F.kp NL.b .nil pass0 (pa_cons (pv 1) pa_nil))
        (pe_one (pe_callB (cr_all rfl) (by rfl) B.all PyProof.Rows.boot_all (pa_cons
          (pe_lc (own := [("clause", 5)]) (g := gName 5) (tt := tYes) (te := tNotN (tCall spLits [] E0 (tCons (tVar 2) (tCons (tVar 5) tNil)))) rfl scAc.nd (pi_seq (pv 1)) (blkOk_by (own := [("clause", 5)]) (N := nAc) (sc := defScope sAc) (by decide +kernel))
            (fun _ _ _ _ _ => pg_name (i := 5) scAc.nd rfl (Or.inl rfl)) (fun _ _ _ _ _ => pts_nil)
            (fun _ _ _ _ _ => pe_cmp (pc_notN (pe_call GLi (hr.mono (by decide)) (by rfl) NLi.g NLi.F.kp NLi.b .nil pass0 (pa_cons (pv 2) (pa_cons (pv 5) pa_nil)))) rfl)) pa_nil)))))), ?_⟩
    refine ⟨_, rfl, l, _, rfl, SqL.of hl, fun pA hD => ?_⟩
    refine dc_it walk_enum (fun i H' => Same H H' ∧ H' pA = some (.dK (placesF 0 (names.take i)))) ⟨Same.new hD, upd_same⟩ (fun i H' _ h => SqL.of (h.1 _ _ hl)) ?_ ?_
    · rintro i x H' H2 hi ⟨sm', hz⟩ ⟨T0, v1, v2, rfl, hT0, rfl, hv1, hv2⟩
      cases hv1
      have hv2 : (names.map V.str)[i]? = some v2 := hv2
      rw [List.getElem?_map] at hv2
      cases hq3 : names[i]? with
      | none => rw [hq3] at hv2; cases hv2
      | some m =>
        rw [hq3] at hv2
        cases hv2
        have hil : i < names.length := (List.getElem?_eq_some_iff.mp hq3).1
        have hlT : upd H' T0 (.tup [.int (i : Nat), .str m]) pA = some (.dK (placesF 0 (names.take i))) := Same.new hT0 _ _ hz
        refine ⟨T0, _, rfl, SqT.of upd_same, rfl, ?_⟩
        refine ⟨_, _, rfl, _, _, rfl, rfl, ?_⟩
        refine ⟨rfl, ?_⟩
        refine ⟨_, rfl, _, rfl, _, Sum.inr m, rfl, hlT, ?_, Same.at (sm'.trans (Same.new hT0)) hD, ?_⟩
        · have := congrArg List.length (placesF_keys 0 (names.take i))
          rw [List.length_map, List.length_map, List.length_take] at this
          exact Nat.lt_of_le_of_lt (show (placesF 0 (names.take i)).length ≤ 1000 by omega) (by decide)
        · rw [upd_same, List.take_add_one, hq3]
          have := placesF_put (names.take i) m (nodup_at nd hq3)
          rw [List.length_take, Nat.min_eq_left (by omega)] at this
          rw [this]
          rfl
    rintro H1 ⟨s1, h1⟩
    rw [List.length_map, List.take_length] at h1
    refine ⟨_, rfl, S, d, v, rfl, hd.same s1, fun H2 s2 => ⟨_, rfl, ?_⟩⟩
    have s12 := s1.trans s2
    cases hi : d.items? with
    | none =>
      have e1 : d.isList = false := by unfold D.isList; rw [hi]; rfl
      have e2 : clausesB names d = false := by unfold clausesB; rw [hi]
      rw [e1]
      refine iteF ?_
      rw [← e2]
      exact k H2 s12
    | some ds =>
      have e1 : d.isList = true := by unfold D.isList; rw [hi]; rfl
      have hsm : ds.length ≤ 1000 := by unfold D.small at sm; rw [hi] at sm; exact sm
      have hsh := sh ds hi
      rw [e1]
      refine iteT ?_
      obtain ⟨a, us, rfl, hq, rr⟩ := (hd.same s12).seq (K := K) hi
      have hus : us.length = ds.length := rr.length
      refine ⟨_, rfl, a, rfl, lc_seq (ExtN.refl H2) hq (fun D0 i H' => Same H2 H' ∧ H' D0 = some (.lst (((ds.take i).map fun c => (litsOf names c).isSome).map V.bl))) (fun D0 hD => ⟨Same.new hD, upd_same⟩) (fun D0 i H' h => extN_of h.1) ?_ ?_⟩
      · rintro D0 hD i x H' hx ⟨sm', hz⟩
        have hsl : i < us.length := (List.getElem?_eq_some_iff.mp hx).1
        obtain ⟨dx, hdx, hrx⟩ := (rr.same sm').get hx
        refine ⟨rfl, ?_⟩
        unfold tYes
        refine iteT ?_
        have fin : ∀ H3, Same H' H3 → ∀ b, (litsOf names dx).isSome = b → ∃ acc, H3 D0 = some (.lst acc) ∧ acc.length < sizeLine ∧ Same H2 (upd H3 D0 (.lst (acc ++ [.bl b]))) ∧ upd H3 D0 (.lst (acc ++ [.bl b])) D0 = some (.lst (((ds.take (i + 1)).map fun c => (litsOf names c).isSome).map V.bl)) := fun H3 s3 b hb => by
          refine ⟨_, s3 _ _ hz, ?_, Same.at (sm'.trans s3) hD, ?_⟩
          · rw [List.length_map, List.length_map, List.length_take]
            exact Nat.lt_of_le_of_lt (show min i ds.length ≤ 1000 by omega) (by decide)
          · rw [upd_same, List.take_add_one, hdx, List.map_append, List.map_append, ← hb]
            rfl
        refine ⟨_, rfl, _, rfl, S, dx, x, pA, names, rfl, (s2.trans sm') _ _ h1, hrx, hsh dx (List.mem_of_getElem? hdx), fun H3 s3 e => fin H3 s3 false (by rw [e]; rfl), fun H3 r ls s3 e hr3 => ?_⟩
        obtain ⟨b, _, rfl, _⟩ := id hr3
        exact fin H3 s3 true (by rw [e]; rfl)
      · rintro D0 hD H' ⟨sm', hz⟩
        refine ⟨D0, _, rfl, SqL.of hz, ?_⟩
        rw [hus, List.take_length]
        have e : ((ds.map fun c => (litsOf names c).isSome).all id) = clausesB names d := by
          unfold clausesB
          rw [hi, List.all_map]
          rfl
        rw [e]
        exact k H' (s12.trans sm')
end
end Q1
set_option Elab.async false
set_option linter.all false
set_option maxRecDepth 100000
set_option maxHeartbeats 4000000
namespace Q1
open PySem PySem.Spec PyProof.Rows L2 LamX
/-! ### set(xs) of a list or a tuple of texts -/
instance keyMem (k : L2.Key) (r : List L2.Key) : Decidable (k ∈ r) := decidable_of_iff (r.any (fun x => decide (x = k)) = true) (by simp)
def cntR : List L2.Key → Nat
  | [] => 0
  | k :: r => if k ∈ r then cntR r else cntR r + 1
/-- how many unlike ones -/
def cntK (ks : List L2.Key) : Nat := cntR ks.reverse
theorem cntK_snoc (ks : List L2.Key) (k : L2.Key) : cntK (ks ++ [k]) = if k ∈ ks then cntK ks else cntK ks + 1 := by
  unfold cntK
  rw [List.reverse_append]
  show (if k ∈ ks.reverse then cntR ks.reverse else cntR ks.reverse + 1) = _
  simp only [List.mem_reverse]
theorem cntR_le : ∀ ks : List L2.Key, cntR ks ≤ ks.length
  | [] => Nat.le_refl _
  | k :: r => by
    have := cntR_le r
    show (if k ∈ r then cntR r else cntR r + 1) ≤ r.length + 1
    split <;> omega
theorem cntK_le (ks : List L2.Key) : cntK ks ≤ ks.length := by
  have := cntR_le ks.reverse
  rw [List.length_reverse] at this
  exact this
theorem cntR_nodup : ∀ ks : List L2.Key, cntR ks = ks.length ↔ ks.Nodup
  | [] => ⟨fun _ => List.nodup_nil, fun _ => rfl⟩
  | k :: r => by
    have h1 := cntR_le r
    have ih := cntR_nodup r
    rw [List.nodup_cons]
    show (if k ∈ r then cntR r else cntR r + 1) = r.length + 1 ↔ _
    by_cases z : k ∈ r
    · rw [if_pos z]
      exact ⟨fun h => by omega, fun h => absurd z h.1⟩
    · rw [if_neg z]
      exact ⟨fun h => ⟨z, ih.mp (by omega)⟩, fun h => by rw [ih.mpr h.2]⟩
theorem cntK_nodup (ks : List L2.Key) : cntK ks = ks.length ↔ ks.Nodup := by
  have := cntR_nodup ks.reverse
  rw [List.length_reverse, (List.reverse_perm ks).nodup_iff] at this
  exact this
def memK (ks : List L2.Key) : L2.Key → Bool := fun j => decide (j ∈ ks)
section
variable {P : Program} {w : World} {A : Around} {E : Value → Shared → Prop} {s : Shared}
theorem set_led_K {I : Addr} {fp wr : List Addr} {G : Array GenState → Array GenState → Prop} {n : Nat} {Pv : Nat → Value → Prop} {St : Nat → Shared → Prop} {R : Result → Shared → Prop}
    (W : WalksS P w A.in1 I fp wr G n Pv St) (S : Addr) (apart : S ∉ fp) (ks : List L2.Key) (len : n = ks.length) (room : ks.length + 1 < scanBound) (keys : ∀ i v, Pv i v → ∃ k, ks[i]? = some k ∧ RelV (kV k) v) :
    ∀ (m i : Nat) (s : Shared), n - i = m → i ≤ n → St i s → s.heap.SetOf (mixKind P w) S (memK (ks.take i)) (cntK (ks.take i)) →
      (∀ s', Moved (S :: wr) G s s' → s'.heap.SetOf (mixKind P w) S (memK ks) (cntK ks) → R (.ok (.ret .none)) s') →
      codeAny (model P w) A (.builtin "set.update.loop" ⟨[.ref S, .ref I], []⟩) R s := by
  have nw : S ∉ wr := fun h => apart (W.sub _ h)
  have up : ∀ b ∈ wr, b ∈ S :: wr := fun b hb => List.mem_cons_of_mem _ hb
  intro m
  induction m with
  | zero =>
    intro i s e hi st hS hR
    have ei : i = n := by omega
    subst ei
    refine codeAny_builtin F.entry_set_update_loop ?_
    rw [Around.under_plainId F.plain_set_update_loop _]
    show wpAny _ A.in1 (pyNext (.ref I) >>= _) _ _ s
    refine wpAny_bind (W.done s _ _ st fun s' hm => ?_)
    show wpAny _ A.in1 (ret Value.none) _ _ s'
    rw [List.take_of_length_le (by omega)] at hS
    exact wpAny_pure (hR s' (hm.mono up) (setOf_at hS fun o e => hm.heap S o nw e))
  | succ m ih =>
    intro i s e hi st hS hR
    have lt : i < n := by omega
    refine codeAny_builtin F.entry_set_update_loop ?_
    rw [Around.under_plainId F.plain_set_update_loop _]
    show wpAny _ A.in1 (pyNext (.ref I) >>= _) _ _ s
    refine wpAny_bind (W.item i s _ _ lt st fun v s' hP st' hm => ?_)
    obtain ⟨k, hk, rv⟩ := keys i v hP
    have hS' := setOf_at hS fun o e => hm.heap S o nw e
    show wpAny _ A.in1 (holding [v] (setAdd S v) >>= _) _ _ s'
    refine wpAny_bind (wpAny_holding ?_)
    unfold setAdd
    refine wpAny_holding ?_
    refine wpAny_bind ((mixKind P w).pyHash (kV_is rv) ?_)
    have cl := cntK_le (ks.take i)
    rw [List.length_take] at cl
    refine wpAny_setAddHashed_of (s := { s' with toks := s'.toks + 1 }) (kV_is rv) (key_scan rv) hS' (by omega) fun h' sb hS2 => ?_
    have eS : (fun j => memK (ks.take i) j || decide (j = k)) = memK (ks.take (i + 1)) := by
      funext j
      unfold memK
      rw [List.take_add_one, hk]
      simp [List.mem_append]
    have eC : (if memK (ks.take i) k = true then cntK (ks.take i) else cntK (ks.take i) + 1) = cntK (ks.take (i + 1)) := by
      rw [List.take_add_one, hk]
      show _ = cntK (ks.take i ++ [k])
      rw [cntK_snoc]
      unfold memK
      simp only [decide_eq_true_eq]
    rw [eS, eC] at hS2
    refine wpAny_pure ⟨plainId_quiet F.plain_set_update_loop _, ih (i + 1) _ (by omega) lt (W.frame _ s' _ _ st' (Nat.le_succ _) fun b hb o e => ?_) hS2 fun s'' hm2 hS3 => ?_⟩
    · rw [sb.2 b (fun h : b = S => apart (by rw [← h]; exact hb))]; exact e
    · refine hR s'' (Moved.trans W.gtrans ((hm.mono up).then_heap (Nat.le_succ _) fun b o hb e => ?_) hm2) hS3
      rw [sb.2 b (fun h : b = S => hb (by rw [h]; exact List.mem_cons_self))]; exact e
/-- a new set -/
abbrev set0 (w : World) : Obj := { cls := .type "set", dict := none, data := .set #[] 0 (.fresh 0 0 (!w.params.followText "set-order")) }
set_option maxHeartbeats 6400000 in
theorem set_of_list {l : Addr} {us : Array Value} (ks : List L2.Key) {Q : Value → Shared → Prop} (calm : A.handled = none) (at_ : s.heap.IsList l us) (len : us.size = ks.length) (keys : ∀ (i : Nat) (v : Value), us[i]? = some v → ∃ k, ks[i]? = some k ∧ RelV (kV k) v) (room : ks.length + 1 < scanBound)
    (k : ∀ (h' : Heap) (tk : Nat), h'.SetOf (mixKind P w) s.heap.objs.size (memK ks) (cntK ks) → (∀ b o, s.heap.get? b = some o → h'.get? b = some o) → Q (.ref s.heap.objs.size) { s with heap := h', toks := tk }) :
    wpAny (model P w) A (call (.type "set") [.ref l]) Q E s := by
  obtain ⟨_, _, mro⟩ := F.called_set.mro
  have made := F.called_set.made
  have sub := F.called_set.sub
  refine wpAny_call (codeAny_of_tree ?_)
  show wpAny _ _ (callAny (.type "set") _) _ _ _
  refine wpAny_pure ⟨Code.quiet_builtin _ (by decide +kernel), codeAny_builtin F.entry_type_call ?_⟩
  rw [Around.under_plain (weight_type_call_type "set" [.ref l] []) rfl]
  have n1 := F.called_set.notType
  have n2 := F.called_set.canCreate
  have n3 := F.typeCall_set_1 (.ref l)
  repeat (any_goals (first | assumption | wp_step))
  refine codeAny_mono (code_set_led1 (.ref l) (E := E) (Q₁ := fun o z => o = .ref s.heap.objs.size ∧ z = { s with heap := s.heap.push (set0 w) }) ⟨rfl, rfl⟩) fun r z hr => ?_
  cases r with
  | error e => exact hr
  | ok fl =>
    cases fl with
    | ret o =>
      obtain ⟨rfl, rfl⟩ := hr
      have hS : (s.heap.push (set0 w)).get? s.heap.objs.size = some (set0 w) := Heap.get?_push_size _ rfl
      have hT : Shared.TypeIs { s with heap := s.heap.push (set0 w) } (.ref s.heap.objs.size) "set" := ⟨_, hS, rfl⟩
      have look := F.called_set.init.lookup
      have bind_ := F.called_set.init.bind (.ref s.heap.objs.size)
      repeat (any_goals (first | assumption | wp_step))
      refine codeAny_mono (codeAny_call_builtin (R := wants (fun r z => r = .none ∧ ∃ h' tk, z = { s with heap := h', toks := tk } ∧ h'.SetOf (mixKind P w) s.heap.objs.size (memK ks) (cntK ks) ∧ (∀ b o, s.heap.get? b = some o → h'.get? b = some o)) E) F.called_set.init.plain F.entry_set_init (check_set_init_1 hT ?_)) fun r2 z2 hr2 => ?_
      · obtain ⟨⟨oc, od, ot, os⟩, ho, hc, nl, hd⟩ := at_
        simp only at hc hd
        subst hc hd
        have ho2 : (s.heap.push (set0 w)).get? l = some { cls := .type "list", dict := od, data := .seq us nl, slots := os } := Heap.get?_push_of_some _ ho
        have q1 := F.sub_list_set
        have q2 := F.sub_list_frozenset
        have q3 : (Value.type "list" == Value.type "dict") = false := by decide
        have hl1 : (s.heap.push (set0 w)).IsList l us := ⟨_, ho2, rfl, nl, rfl⟩
        unfold Builtin.«set.__init__» noKeywords Builtin.Frozenset.updateFrom
        generalize hPI : pyIter = PI
        wp_walk
        subst hPI
        refine wpAny_pyIter_list hl1 ?_
        refine wpAny_bind (wpAny_runValue ?_)
        have ls : l < s.heap.objs.size := Heap.lt_size ho
        have calm3 : A.in1.in1.in1.handled = none := by simp [calm]
        have sz : (s.heap.push (set0 w)).objs.size = s.heap.objs.size + 1 := Heap.size_push ..
        have lne : l ≠ (s.heap.push (set0 w)).objs.size := by rw [sz]; exact Nat.ne_of_lt (Nat.lt_succ_of_lt ls)
        have apart : s.heap.objs.size ∉ [(s.heap.push (set0 w)).objs.size, l] := by
          rw [sz]
          simp only [List.mem_cons, List.not_mem_nil, or_false, not_or]
          exact ⟨Nat.ne_of_lt (Nat.lt_succ_self _), Nat.ne_of_gt ls⟩
        refine set_led_K ((Walks.list calm3 _ l lne us).toS) s.heap.objs.size apart ks len room keys (us.size - 0) 0 _ (by omega) (Nat.zero_le _) ⟨⟨_, Heap.get?_push_size _ rfl, rfl, rfl⟩, hl1.push _⟩ ?base ?rest
        case base =>
          have g : ((s.heap.push (set0 w)).push { cls := .type "list_iterator", data := .fields #[.ref l, .int 0 0] }).get? s.heap.objs.size = some (set0 w) := Heap.get?_push_of_some _ hS
          exact ⟨_, #[], 0, _, g, ⟨rfl, rfl, rfl⟩, rfl, (fun e he => by simp at he), (fun k => by simp [memK]), (by decide), (by rfl), rfl⟩
        case rest =>
          intro z hm hS2
          obtain ⟨h', g2, d2, t2, o2⟩ := z
          have eg : g2 = s.gens := hm.gens
          have ed : d2 = s.drawn := hm.drawn
          have eo : o2 = s.os := hm.os
          subst eg ed eo
          show wpAny _ _ _ _ _ _
          refine wpAny_pure ?_
          show wpAny _ _ (ret Value.none) _ _ _
          refine wpAny_pure ⟨rfl, h', t2, rfl, hS2, fun b o e => ?_⟩
          have b0 : b < s.heap.objs.size := Heap.lt_size e
          refine hm.heap b o ?_ (Heap.get?_push_of_some _ (Heap.get?_push_of_some _ e))
          simp only [List.mem_cons, List.not_mem_nil, or_false, not_or]
          rw [sz]
          exact ⟨Nat.ne_of_lt b0, Nat.ne_of_lt (Nat.lt_succ_of_lt b0)⟩
      · cases r2 with
        | error e => exact hr2
        | ok fl2 =>
          cases fl2 with
          | ret r =>
            obtain ⟨rfl, h', tk, rfl, hS2, old⟩ := hr2
            repeat (any_goals (first | assumption | wp_step))
            exact k _ _ hS2 old
          | _ => exact hr2.elim
    | _ => exact hr.elim
set_option maxHeartbeats 6400000 in
theorem set_of_tuple {l : Addr} {us : Array Value} (ks : List L2.Key) {Q : Value → Shared → Prop} (calm : A.handled = none) (at_ : s.heap.IsTuple l us) (len : us.size = ks.length) (keys : ∀ (i : Nat) (v : Value), us[i]? = some v → ∃ k, ks[i]? = some k ∧ RelV (kV k) v) (room : ks.length + 1 < scanBound)
    (k : ∀ (h' : Heap) (tk : Nat), h'.SetOf (mixKind P w) s.heap.objs.size (memK ks) (cntK ks) → (∀ b o, s.heap.get? b = some o → h'.get? b = some o) → Q (.ref s.heap.objs.size) { s with heap := h', toks := tk }) :
    wpAny (model P w) A (call (.type "set") [.ref l]) Q E s := by
  obtain ⟨_, _, mro⟩ := F.called_set.mro
  have made := F.called_set.made
  have sub := F.called_set.sub
  refine wpAny_call (codeAny_of_tree ?_)
  show wpAny _ _ (callAny (.type "set") _) _ _ _
  refine wpAny_pure ⟨Code.quiet_builtin _ (by decide +kernel), codeAny_builtin F.entry_type_call ?_⟩
  rw [Around.under_plain (weight_type_call_type "set" [.ref l] []) rfl]
  have n1 := F.called_set.notType
  have n2 := F.called_set.canCreate
  have n3 := F.typeCall_set_1 (.ref l)
  repeat (any_goals (first | assumption | wp_step))
  refine codeAny_mono (code_set_led1 (.ref l) (E := E) (Q₁ := fun o z => o = .ref s.heap.objs.size ∧ z = { s with heap := s.heap.push (set0 w) }) ⟨rfl, rfl⟩) fun r z hr => ?_
  cases r with
  | error e => exact hr
  | ok fl =>
    cases fl with
    | ret o =>
      obtain ⟨rfl, rfl⟩ := hr
      have hS : (s.heap.push (set0 w)).get? s.heap.objs.size = some (set0 w) := Heap.get?_push_size _ rfl
      have hT : Shared.TypeIs { s with heap := s.heap.push (set0 w) } (.ref s.heap.objs.size) "set" := ⟨_, hS, rfl⟩
      have look := F.called_set.init.lookup
      have bind_ := F.called_set.init.bind (.ref s.heap.objs.size)
      repeat (any_goals (first | assumption | wp_step))
      refine codeAny_mono (codeAny_call_builtin (R := wants (fun r z => r = .none ∧ ∃ h' tk, z = { s with heap := h', toks := tk } ∧ h'.SetOf (mixKind P w) s.heap.objs.size (memK ks) (cntK ks) ∧ (∀ b o, s.heap.get? b = some o → h'.get? b = some o)) E) F.called_set.init.plain F.entry_set_init (check_set_init_1 hT ?_)) fun r2 z2 hr2 => ?_
      · obtain ⟨⟨oc, od, ot, os⟩, ho, hc, nl, hd⟩ := at_
        simp only at hc hd
        subst hc hd
        have ho2 : (s.heap.push (set0 w)).get? l = some { cls := .type "tuple", dict := od, data := .seq us nl, slots := os } := Heap.get?_push_of_some _ ho
        have q1 := F.sub_tuple_set
        have q2 := F.sub_tuple_frozenset
        have q3 : (Value.type "tuple" == Value.type "dict") = false := by decide
        have hl1 : (s.heap.push (set0 w)).IsTuple l us := ⟨_, ho2, rfl, nl, rfl⟩
        unfold Builtin.«set.__init__» noKeywords Builtin.Frozenset.updateFrom
        generalize hPI : pyIter = PI
        wp_walk
        subst hPI
        refine wpAny_pyIter_tuple hl1 ?_
        refine wpAny_bind (wpAny_runValue ?_)
        have ls : l < s.heap.objs.size := Heap.lt_size ho
        have calm3 : A.in1.in1.in1.handled = none := by simp [calm]
        have sz : (s.heap.push (set0 w)).objs.size = s.heap.objs.size + 1 := Heap.size_push ..
        have lne : l ≠ (s.heap.push (set0 w)).objs.size := by rw [sz]; exact Nat.ne_of_lt (Nat.lt_succ_of_lt ls)
        have apart : s.heap.objs.size ∉ [(s.heap.push (set0 w)).objs.size, l] := by
          rw [sz]
          simp only [List.mem_cons, List.not_mem_nil, or_false, not_or]
          exact ⟨Nat.ne_of_lt (Nat.lt_succ_self _), Nat.ne_of_gt ls⟩
        refine set_led_K ((Walks.tuple calm3 _ l lne us).toS) s.heap.objs.size apart ks len room keys (us.size - 0) 0 _ (by omega) (Nat.zero_le _) ⟨⟨_, Heap.get?_push_size _ rfl, rfl, rfl⟩, hl1.push _⟩ ?base ?rest
        case base =>
          have g : ((s.heap.push (set0 w)).push { cls := .type "tuple_iterator", data := .fields #[.ref l, .int 0 0] }).get? s.heap.objs.size = some (set0 w) := Heap.get?_push_of_some _ hS
          exact ⟨_, #[], 0, _, g, ⟨rfl, rfl, rfl⟩, rfl, (fun e he => by simp at he), (fun k => by simp [memK]), (by decide), (by rfl), rfl⟩
        case rest =>
          intro z hm hS2
          obtain ⟨h', g2, d2, t2, o2⟩ := z
          have eg : g2 = s.gens := hm.gens
          have ed : d2 = s.drawn := hm.drawn
          have eo : o2 = s.os := hm.os
          subst eg ed eo
          show wpAny _ _ _ _ _ _
          refine wpAny_pure ?_
          show wpAny _ _ (ret Value.none) _ _ _
          refine wpAny_pure ⟨rfl, h', t2, rfl, hS2, fun b o e => ?_⟩
          have b0 : b < s.heap.objs.size := Heap.lt_size e
          refine hm.heap b o ?_ (Heap.get?_push_of_some _ (Heap.get?_push_of_some _ e))
          simp only [List.mem_cons, List.not_mem_nil, or_false, not_or]
          rw [sz]
          exact ⟨Nat.ne_of_lt b0, Nat.ne_of_lt (Nat.lt_succ_of_lt b0)⟩
      · cases r2 with
        | error e => exact hr2
        | ok fl2 =>
          cases fl2 with
          | ret r =>
            obtain ⟨rfl, h', tk, rfl, hS2, old⟩ := hr2
            repeat (any_goals (first | assumption | wp_step))
            exact k _ _ hS2 old
          | _ => exact hr2.elim
    | _ => exact hr.elim
end
end Q1
set_option Elab.async false
set_option linter.all false
set_option maxRecDepth 100000
set_option maxHeartbeats 4000000
namespace Q1
open PySem PySem.Spec PyProof.Rows L2 LamX
/-- how many unlike texts -/
def unlike (xs : List Str) : Nat := cntK (xs.map fun x => (Sum.inr x : L2.Key))
theorem unlike_nodup (xs : List Str) : unlike xs = xs.length ↔ xs.Nodup := by
  have h := cntK_nodup (xs.map fun x => (Sum.inr x : L2.Key))
  rw [List.length_map] at h
  unfold unlike
  rw [h]
  constructor
  · intro n
    exact List.Pairwise.of_map (fun x => (Sum.inr x : L2.Key)) (fun a b ne e => ne (by rw [e])) n
  · intro n
    exact List.Pairwise.map (fun x => (Sum.inr x : L2.Key)) (fun a b ne e => ne (Sum.inr.inj e)) n
/-- len(set(xs)) of texts -/
def tLenS (K : PySem.W.Frag) (ta : TE) : TE := fun σ H Q => ta σ H fun x H1 => ∃ (l : Addr) (xs : List Str), x = .ref l ∧ (SqL K H1 l (xs.map V.str) ∨ SqT K H1 l (xs.map V.str)) ∧ xs.length ≤ 1000 ∧ Q (.int (unlike xs : Nat)) H1
theorem pe_lenS {X : Cx} {a : Expr} {ta : TE} {p p2 q pos : Pos} (calm : X.calm = true) (g1 : Gl X "len") (m1 : X.mg "len" = none) (g2 : Gl X "set") (m2 : X.mg "set" = none) (ha : PE X a ta)
    (star : starEach [a] X.env = (false, eval a X.env) :: starEach [] X.env := by rfl) : PE X (.Call (.Name "len" p) [.Call (.Name "set" p2) [a] [] q] [] pos) (tLenS X.K ta) := by
  refine ⟨fun pins s σ H Q I h => ?_⟩
  refine Call_ (ld_blt I g1 m1 boot_len ?_)
  refine callWith_builtin1 (args_cons ?_ rfl) rfl rfl
  refine Call_ (ld_blt I g2 m2 boot_set ?_)
  refine callWith_type1 (args_cons (thn (ha.run pins s σ H _ I h) fun v s1 ⟨x, H1, I1, r1, q1⟩ => args_nil ?_) star) star rfl
  obtain ⟨l, xs, rfl, hq, hl, q1⟩ := q1
  cases r1
  have sb : scanBound = 2147483648 ∨ 1001 < scanBound := by right; unfold scanBound; omega
  have rm : (xs.map fun x => (Sum.inr x : L2.Key)).length + 1 < scanBound := by
    rw [List.length_map]
    unfold scanBound
    omega
  have keys : ∀ {its : List Value}, Vals (xs.map V.str) its → ∀ (i : Nat) (v : Value), its.toArray[i]? = some v → ∃ k, (xs.map fun x => (Sum.inr x : L2.Key))[i]? = some k ∧ RelV (kV k) v := fun {its} r i v hv => by
    have hv : its[i]? = some v := by simpa using hv
    have hi : i < its.length := (List.getElem?_eq_some_iff.mp hv).1
    have ln := r.length
    rw [List.length_map] at ln
    have e : xs[i]? = some (xs[i]'(by omega)) := List.getElem?_eq_getElem (by omega)
    obtain ⟨u, hu, ru⟩ := r.get (i := i) (x := V.str (xs[i]'(by omega))) (by rw [List.getElem?_map, e]; rfl)
    rw [hv] at hu
    cases hu
    exact ⟨Sum.inr _, by rw [List.getElem?_map, e]; rfl, ru⟩
  have fin : ∀ (h' : Heap) (tk : Nat), h'.SetOf (mixKind X.prog X.w) s1.heap.objs.size (memK (xs.map fun x => (Sum.inr x : L2.Key))) (cntK (xs.map fun x => (Sum.inr x : L2.Key))) → (∀ b o, s1.heap.get? b = some o → h'.get? b = some o) →
      wpAny (model X.prog X.w) X.A (spliced (backTo pos (starEach [] X.env))) (fun vs s2 => wpAny (model X.prog X.w) X.A (call (.builtin "len") (Value.ref s1.heap.objs.size :: vs)) (EP X pins σ Q) X.xe s2) X.xe { s1 with heap := h', toks := tk } := fun h' tk hS hk => by
    refine args_nil ?_
    have cl := cntK_le (xs.map fun x => (Sum.inr x : L2.Key))
    rw [List.length_map] at cl
    obtain ⟨o, es, ep, t, ho, hex, hd, _, _, _, hf, hn⟩ := hS
    have I2 : Inv X pins σ H1 { s1 with heap := h', toks := tk } := I1.kept fun b o e => hk b o e
    refine call_len_set ho hex hd hf (by rw [hn]; omega) ⟨.int (unlike xs : Nat), H1, I2.tok _, ⟨_, by rw [hn]; rfl⟩, q1⟩
  rcases hq with hq | hq
  · obtain ⟨its, r, pl, hz⟩ := I1.list hq
    exact set_of_list _ (I1.ok.hd calm) pl.isList (by rw [List.size_toArray, List.length_map, ← r.length, List.length_map]) (keys r) rm fun h' tk hS hk => fin h' tk hS hk
  · obtain ⟨its, r, pl, hz⟩ := I1.tuple hq
    exact set_of_tuple _ (I1.ok.hd calm) pl (by rw [List.size_toArray, List.length_map, ← r.length, List.length_map]) (keys r) rm fun h' tk hS hk => fin h' tk hS hk
end Q1
set_option Elab.async false
set_option linter.all false
set_option maxRecDepth 100000
set_option maxHeartbeats 4000000
namespace Q1
open PySem L2 LamX
/-- all([.. for .. in xs]), each turn only looking -/
theorem all_lc {K : PySem.W.Frag} {S : Addr → Prop} {H1 : Hp} {σ : L2.St} {vs : List Nat} {Q : VK} {d : D} {ds : List D} {v : V} {tl te : TE} {g : TG} (f : D → Bool) (hd : Rep S H1 d v) (hi : d.items? = some ds) (hn : ds.length ≤ 1000)
    (ht : ∀ R : VK, R v H1 → tl σ H1 R) (body : ∀ dx x H' (R : VK), dx ∈ ds → Same H1 H' → Rep S H' dx x → (∀ H3, Same H' H3 → R (.bl (f dx)) H3) → g x (wipe σ vs) H' fun σ2 H2 => wipe σ2 vs = wipe σ vs ∧ te σ2 H2 R)
    (mono : ∀ x σ' H' (R R2 : L2.St → Hp → Prop), (∀ a b, R a b → R2 a b) → g x σ' H' R → g x σ' H' R2) (k : ∀ H', Same H1 H' → Q (.bl (ds.all f)) H') :
    tCB (rAll K) (tCons (tLc (iSeq K tl) g tYes te vs) tNil) σ H1 Q := by
  obtain ⟨a, us, rfl, hq, rr⟩ := hd.seq (K := K) hi
  have hus : us.length = ds.length := rr.length
  refine ht _ ⟨a, rfl, lc_seq (ExtN.refl H1) hq (fun D0 i H' => Same H1 H' ∧ H' D0 = some (.lst (((ds.take i).map f).map V.bl))) (fun D0 hD => ⟨Same.new hD, upd_same⟩) (fun D0 i H' h => extN_of h.1) ?_ ?_⟩
  · rintro D0 hD i x H' hx ⟨sm', hz⟩
    have hsl : i < us.length := (List.getElem?_eq_some_iff.mp hx).1
    obtain ⟨dx, hdx, hrx⟩ := (rr.same sm').get hx
    refine mono _ _ _ _ _ (fun a b h => ⟨h.1, ?_⟩) (body dx x H' (fun y H4 => ∃ acc, H4 D0 = some (.lst acc) ∧ acc.length < sizeLine ∧ Same H1 (upd H4 D0 (.lst (acc ++ [y]))) ∧ upd H4 D0 (.lst (acc ++ [y])) D0 = some (.lst (((ds.take (i + 1)).map f).map V.bl))) (List.mem_of_getElem? hdx) sm' hrx fun H3 s3 => ?_)
    · unfold tYes
      exact iteT h.2
    · refine ⟨_, s3 _ _ hz, ?_, Same.at (sm'.trans s3) hD, ?_⟩
      · rw [List.length_map, List.length_map, List.length_take]
        exact Nat.lt_of_le_of_lt (show min i ds.length ≤ 1000 by omega) (by decide)
      · rw [upd_same, List.take_add_one, hdx, List.map_append, List.map_append]
        rfl
  · rintro D0 hD H' ⟨sm', hz⟩
    refine ⟨D0, _, rfl, SqL.of hz, ?_⟩
    rw [hus, List.take_length]
    have e : ((ds.map f).all id) = ds.all f := by
      rw [List.all_map]
      rfl
    rw [e]
    exact k H' sm'
theorem mono_name {i : Nat} : ∀ x σ' H' (R R2 : L2.St → Hp → Prop), (∀ a b, R a b → R2 a b) → gName i x σ' H' R → gName i x σ' H' R2 := fun x σ' H' R R2 h r => h _ _ r
theorem mono_seq2 {K : PySem.W.Frag} {i j : Nat} : ∀ x σ' H' (R R2 : L2.St → Hp → Prop), (∀ a b, R a b → R2 a b) → gSeq K 2 (gCons (gName i) (gCons (gName j) gNil)) x σ' H' R → gSeq K 2 (gCons (gName i) (gCons (gName j) gNil)) x σ' H' R2 := by
  rintro x σ' H' R R2 h ⟨a, xs, e, hq, hl, r⟩
  refine ⟨a, xs, e, hq, hl, ?_⟩
  obtain ⟨y, ys, rfl, z, zs, rfl, e2, r⟩ := r
  exact ⟨y, _, rfl, z, _, rfl, e2, h _ _ r⟩
section
variable {P : Program} {w : World} {K : PySem.W.Frag} {mg : Str → Option Value} {base : Heap}
/-! ### is_game -/
theorem inV_strs (z : Str) (xs : List Str) : inV (.str z) (xs.map V.str) = decide (z ∈ xs) := by
  unfold inV
  rw [List.any_map, Bool.eq_iff_iff, List.any_eq_true, decide_eq_true_iff]
  constructor
  · rintro ⟨x, hx, e⟩
    have e : (x == z) = true := e
    rw [← eq_of_beq e]
    exact hx
  · intro h
    exact ⟨z, h, show (z == z) = true from beq_self_eq_true z⟩
theorem flat_strs (xs : List Str) : (xs.map V.str).all flatV = true := by
  rw [List.all_map, List.all_eq_true]
  intro x _
  rfl
theorem pairs_items {d : D} (h : pairsB d = true) : ∃ xs, d.items? = some xs ∧ ∀ x ∈ xs, pairB x = true := by
  unfold pairsB at h
  cases e : d.items? with
  | none => rw [e] at h; cases h
  | some xs => rw [e] at h; exact ⟨xs, rfl, List.all_eq_true.mp h⟩
theorem pair_items {d : D} (h : pairB d = true) : ∃ p q, d.items? = some [p, q] := by
  unfold pairB at h
  cases e : d.items? with
  | none => rw [e] at h; cases h
  | some xs =>
    rw [e] at h
    match xs, h with
    | [p, q], _ => exact ⟨p, q, rfl⟩
abbrev sIg : Stmt := top 17
abbrev nIg : List Str := ["thing", "kept", "turns", "nexts", "rules", "names", "_", "truth", "hand", "name"]
theorem scIg : FnScope nIg ["thing"] (defScope sIg) := ⟨rfl, rfl, rfl, by decide +kernel, rfl, by decide +kernel, by decide +kernel⟩
def sndD (d : D) : D := match d.items? with
  | some [_, b] => b
  | _ => .non
def isHandG : D → Bool
  | .str x => decide (x = "we") || decide (x = "they")
  | _ => false
def isNextG (names : List Str) : D → Bool
  | .str x => decide (x ∈ names)
  | _ => false
def itemsL (d : D) : List D := match d.items? with
  | some xs => xs
  | none => []
/-- what is a game -/
def gameB (d : D) : Bool := match d.items? with
  | some [k, t, n, r] => (pairsB k && pairsB t) && (!(itemsL t).isEmpty && ((itemsL k).all (fun x => (sndD x).isBool) && ((itemsL t).all (fun x => isHandG (sndD x)) && (decide (nmsG d).Nodup && (n.isOf (itemsL k).length && ((itemsL n).all (isNextG (nmsG d)) && clausesB (nmsG d) r))))))
  | _ => false
/-- no larger than this -/
structure GameIn (d : D) : Prop where
  four : ∀ k t n r, d.items? = some [k, t, n, r] → k.small ∧ t.small ∧ n.small ∧ r.small ∧ (∀ ds, k.items? = some ds → ds.length ≤ 400 ∧ shortL ds) ∧ (∀ ds, t.items? = some ds → ds.length ≤ 400 ∧ shortL ds) ∧ (∀ ds, r.items? = some ds → ∀ x ∈ ds, x.small)
def spIg : Sp := fun vs H Q _ => ∃ (S : Addr → Prop) (d : D) (v : V), vs = [v] ∧ Rep S H d v ∧ GameIn d ∧ ∀ H', Same H H' → Q (.bl (gameB d)) H'
theorem ok_ig (B : Bt mg) (C : Cs mg) (N : Dn K mg "is_game" sIg ["thing"]) (NL : Dn K mg "is_list" sIsList ["thing"]) (NT : Dn K mg "is_tuple_of" sIsTupleOf ["thing", "length"]) (NN : Dn K mg "is_name" sIsName ["thing"]) (NLi : Dn K mg "literal_list" sLits ["places", "thing"])
    (NP : Dn K mg "are_pairs" sAp ["thing"]) (NC : Dn K mg "are_clauses" sAc ["names", "thing"]) (NG : Dn K mg "names_of_game" sNg ["game"]) : FnOk P w K mg base CX0 5 N.f N.fd ["thing"] spIg := by
  have GT : FnOk P w K mg base CX0 2 NT.f NT.fd ["thing", "length"] spIsTupleOf := ok_isTupleOf B NT NL
  have GP : FnOk P w K mg base CX0 3 NP.f NP.fd ["thing"] spAp := ok_ap B C NP NL NT NN
  have GC : FnOk P w K mg base CX0 4 NC.f NC.fd ["names", "thing"] spAc := ok_ac B NC NL NT NLi
  have GG : FnOk P w K mg base CX0 1 NG.f NG.fd ["game"] spNg := ok_ng NG
  refine N.F.ok scIg (fun vs H Q E h => ?_) (fun cdv A outer s H vs Q E hr h => ?_)
  · obtain ⟨S, d, v, rfl, _⟩ := h
    rfl
  · obtain ⟨S, d, v, rfl, hd, gi, k⟩ := h
    refine ⟨_, pss_cons (ps_if (pt_not (pt_val (pe_call GT (hr.mono (by decide)) (by rfl) NT.g NT.F.kp NT.b .nil pass0 (pa_cons (pv 0) (pa_cons pe_int pa_nil))) (fun _ => rfl))) (pss_one (ps_ret pe_bl)) pss_nil)
      (pss_cons (ps_asg (pv 0) (pg_seq rfl (pgs_cons (pg_name (i := 1) scIg.nd rfl (Or.inl rfl)) (pgs_cons (pg_name (i := 2) scIg.nd rfl (Or.inl rfl)) (pgs_cons (pg_name (i := 3) scIg.nd rfl (Or.inl rfl)) (pgs_cons (pg_name (i := 4) scIg.nd rfl (Or.inl rfl)) pgs_nil))))))
      (pss_cons (ps_if (PW.pt (pw_or (pt_not (pt_val (pe_call GP (hr.mono (by decide)) (by rfl) NP.g NP.F.kp NP.b .nil pass0 (pa_cons (pv 1) pa_nil)) (fun _ => rfl)))
          (pw_or (pt_not (pt_val (pe_call GP (hr.mono (by decide)) (by rfl) NP.g NP.F.kp NP.b .nil pass0 (pa_cons (pv 2) pa_nil)) (fun _ => rfl))) (pw_or1 (pt_not (pt_truth (pv 2) (fun _ => rfl))))))) (pss_one (ps_ret pe_bl)) pss_nil)
      (pss_cons (ps_if (pt_not (pt_val (pe_callB (cr_all rfl) (by rfl) B.all PyProof.Rows.boot_all (pa_cons
          (pe_lc (own := [("_", 6), ("truth", 7)]) (g := gSeq K 2 (gCons (gName 6) (gCons (gName 7) gNil))) (tt := tYes) (te := tCB (rIsi K) (tCons (tVar 7) (tCons (tC (.ty "bool")) tNil))) rfl scIg.nd (pi_seq (pv 1)) (blkOk_by (own := [("_", 6), ("truth", 7)]) (N := nIg) (sc := defScope sIg) (by decide +kernel))
            (fun _ _ _ _ _ => pg_seq (by rfl) (pgs_cons (pg_name (i := 6) scIg.nd (by rfl) (Or.inl (by rfl)) (by exact .inr rfl)) (pgs_cons (pg_name (i := 7) scIg.nd (by rfl) (Or.inl (by rfl)) (by exact .inr rfl)) pgs_nil))) (fun _ _ _ _ _ => pts_nil)
            (fun _ _ _ _ _ => pe_callB call_isi (by rfl) B.isi PyProof.Rows.boot_isinstance (pa_cons (pv 7) (pa_cons (gt B.bool PyProof.Rows.boot_bool) pa_nil)))) pa_nil)) (fun _ => rfl))) (pss_one (ps_ret pe_bl)) pss_nil)
      (pss_cons (ps_if (pt_not (pt_val (pe_callB (cr_all rfl) (by rfl) B.all PyProof.Rows.boot_all (pa_cons
          (pe_lc (own := [("_", 6), ("hand", 8)]) (g := gSeq K 2 (gCons (gName 6) (gCons (gName 8) gNil))) (tt := tYes) (te := tAndV (tCB (rIsi K) (tCons (tVar 8) (tCons (tC (.ty "str")) tNil))) (tOp (rIn K false) (tVar 8) (tTup (tCons (tC (.str "we")) (tCons (tC (.str "they")) tNil))))) rfl scIg.nd (pi_seq (pv 2)) (blkOk_by (own := [("_", 6), ("hand", 8)]) (N := nIg) (sc := defScope sIg) (by decide +kernel))
            (fun _ _ _ _ _ => pg_seq (by rfl) (pgs_cons (pg_name (i := 6) scIg.nd (by rfl) (Or.inl (by rfl)) (by exact .inr rfl)) (pgs_cons (pg_name (i := 8) scIg.nd (by rfl) (Or.inl (by rfl)) (by exact .inr rfl)) pgs_nil))) (fun _ _ _ _ _ => pts_nil)
            (fun _ _ _ _ _ => pe_and (pe_callB call_isi (by rfl) B.isi PyProof.Rows.boot_isinstance (pa_cons (pv 8) (pa_cons (gt B.str PyProof.Rows.boot_str) pa_nil))) (pe_one (pe_cmpR op_in_seq (pv 8) (pe_tup (pa_cons pe_str (pa_cons pe_str pa_nil))) (by rfl))))) pa_nil)) (fun _ => rfl))) (pss_one (ps_ret pe_bl)) pss_nil)
      (pss_cons (ps_set (i := 5) scIg.nd rfl (Or.inr rfl) (pe_call GG (hr.mono (by decide)) (by rfl) NG.g NG.F.kp NG.b .nil pass0 (pa_cons (pv 0) pa_nil)))
      (pss_cons (ps_if (PW.pt (pw_or (pt_cmpR op_ne (pe_lenS rfl (by rfl) B.len (by rfl) B.set (pv 5)) (pe_callB call_len_seq (by rfl) B.len boot_len (pa_cons (pv 5) pa_nil)) (nomark _))
          (pw_or1 (pt_not (pt_val (pe_call GT (hr.mono (by decide)) (by rfl) NT.g NT.F.kp NT.b .nil pass0 (pa_cons (pv 3) (pa_cons (pe_callB call_len_seq (by rfl) B.len boot_len (pa_cons (pv 1) pa_nil)) pa_nil))) (fun _ => rfl)))))) (pss_one (ps_ret pe_bl)) pss_nil)
      (pss_cons (ps_if (pt_not (pt_val (pe_callB (cr_all rfl) (by rfl) B.all PyProof.Rows.boot_all (pa_cons
          (pe_lc (own := [("name", 9)]) (g := gName 9) (tt := tYes) (te := tAndV (tCB (rIsi K) (tCons (tVar 9) (tCons (tC (.ty "str")) tNil))) (tOp (rIn K false) (tVar 9) (tVar 5))) rfl scIg.nd (pi_seq (pv 3)) (blkOk_by (own := [("name", 9)]) (N := nIg) (sc := defScope sIg) (by decide +kernel))
            (fun _ _ _ _ _ => pg_name (i := 9) scIg.nd rfl (Or.inl rfl)) (fun _ _ _ _ _ => pts_nil)
            (fun _ _ _ _ _ => pe_and (pe_callB call_isi (by rfl) B.isi PyProof.Rows.boot_isinstance (pa_cons (pv 9) (pa_cons (gt B.str PyProof.Rows.boot_str) pa_nil))) (pe_one (pe_cmpR op_in_seq (pv 9) (pv 5) (by rfl))))) pa_nil)) (fun _ => rfl))) (pss_one (ps_ret pe_bl)) pss_nil)
      (pss_one (ps_ret (pe_call GC (hr.mono (by decide)) (by rfl) NC.g NC.F.kp NC.b .nil pass0 (pa_cons (pv 5) (pa_cons (pv 4) pa_nil)))))))))))), ?_⟩
    have no : gameB d = false → ∀ H', Same H H' → Q (.bl false) H' := fun e H' s' => e ▸ k H' s'
    refine ⟨_, rfl, S, d, v, 4, rfl, hd, fun H1 s1 => ⟨_, rfl, ?_⟩⟩
    cases e4 : d.isOf 4 with
    | false =>
      refine iteT ?_
      refine no ?_ H1 s1
      unfold D.isOf at e4
      unfold gameB
      cases e : d.items? with
      | none => rfl
      | some xs =>
        rw [e] at e4
        match xs, e4 with
        | [], _ => rfl
        | [_], _ => rfl
        | [_, _], _ => rfl
        | [_, _, _], _ => rfl
        | [_, _, _, _], h => cases h
        | _ :: _ :: _ :: _ :: _ :: _, _ => rfl
    | true =>
      refine iteF ?_
      obtain ⟨dk, dt, dn, dr, hi⟩ : ∃ dk dt dn dr, d.items? = some [dk, dt, dn, dr] := by
        unfold D.isOf at e4
        cases e : d.items? with
        | none => rw [e] at e4; cases e4
        | some xs =>
          rw [e] at e4
          match xs, e4 with
          | [a, b, c, f], _ => exact ⟨a, b, c, f, rfl⟩
          | [], h => cases h
          | [_], h => cases h
          | [_, _], h => cases h
          | [_, _, _], h => cases h
          | _ :: _ :: _ :: _ :: _ :: _, h => simp at h
      obtain ⟨k1, t1, n1, r1, fk, ft, fr⟩ := gi.four _ _ _ _ hi
      have eg : gameB d = ((pairsB dk && pairsB dt) && (!(itemsL dt).isEmpty && ((itemsL dk).all (fun x => (sndD x).isBool) && ((itemsL dt).all (fun x => isHandG (sndD x)) && (decide (nmsG d).Nodup && (dn.isOf (itemsL dk).length && ((itemsL dn).all (isNextG (nmsG d)) && clausesB (nmsG d) dr))))))) := by
        conv => lhs; unfold gameB; rw [hi]
      obtain ⟨a, us, rfl, hq, rr⟩ := id ((hd.same s1).seq (K := K) hi)
      obtain ⟨vk, _, rfl, rk, vt, _, rfl, rt, vn, _, rfl, rn, vr, _, rfl, rr4, rfl⟩ := rr
      refine ⟨_, rfl, a, _, rfl, hq, rfl, ?_⟩
      refine ⟨vk, _, rfl, vt, _, rfl, vn, _, rfl, vr, _, rfl, rfl, ?_⟩
      refine ⟨_, rfl, S, dk, vk, rfl, rk, k1, fun ds h => (fk ds h).2, fun H2 s2 => ⟨_, rfl, ?_⟩⟩
      cases ek : pairsB dk with
      | false =>
        refine iteT (iteT ?_)
        exact no (by rw [eg, ek]; rfl) H2 (s1.trans s2)
      | true =>
      refine iteF ?_
      refine ⟨_, rfl, S, dt, vt, rfl, rt.same s2, t1, fun ds h => (ft ds h).2, fun H3 s3 => ⟨_, rfl, ?_⟩⟩
      cases et : pairsB dt with
      | false =>
        refine iteT (iteT ?_)
        exact no (by rw [eg, ek, et]; rfl) H3 (s1.trans (s2.trans s3))
      | true =>
      refine iteF ?_
      obtain ⟨dks, hdk, pk⟩ := pairs_items ek
      obtain ⟨dts, hdt, pt⟩ := pairs_items et
      have lk := (fk dks hdk).1
      have lt := (ft dts hdt).1
      have s13 := s1.trans (s2.trans s3)
      have s23 := s2.trans s3
      have ik : itemsL dk = dks := by unfold itemsL; rw [hdk]
      have it_ : itemsL dt = dts := by unfold itemsL; rw [hdt]
      rw [ek, et, ik, it_] at eg
      obtain ⟨at_, ut, evt, hqt, rut⟩ := (rt.same s23).seq (K := K) hdt
      subst evt
      have lut : ut.length = dts.length := rut.length
      have em2 : ut.isEmpty = dts.isEmpty := by rw [Bool.eq_iff_iff, List.isEmpty_iff_length_eq_zero, List.isEmpty_iff_length_eq_zero, lut]
      refine ⟨_, rfl, !ut.isEmpty, hqt.elim (fun h => .inl ⟨_, h, rfl⟩) (fun h => .inr (.inl ⟨_, h, rfl⟩)), ?_⟩
      rw [em2]
      cases em : dts.isEmpty with
      | true =>
        refine iteT ?_
        exact no (by rw [eg, em]; rfl) H3 s13
      | false =>
      refine iteF ?_
      rw [em] at eg
      refine all_lc (K := K) (σ := [some (.ref a), some vk, some (.ref at_), some vn, some vr, none, none, none, none, none]) (vs := [6, 7]) (tl := tVar 1) (te := tCB (rIsi K) (tCons (tVar 7) (tCons (tC (.ty "bool")) tNil))) (g := gSeq K 2 (gCons (gName 6) (gCons (gName 7) gNil))) (S := S) (d := dk) (ds := dks) (v := vk) (fun x => (sndD x).isBool) (rk.same s23) hdk (by omega) (fun R h => ⟨_, rfl, h⟩) (fun dx x H' R hm sm' hx kk => ?_) mono_seq2 fun H4 s4 => ?_
      · obtain ⟨p, q, e6⟩ := pair_items (pk dx hm)
        obtain ⟨b, vs2, rfl, hq2, r2⟩ := hx.seq (K := K) e6
        obtain ⟨vp, r3, rfl, hp, vq, r4, rfl, hqq, rfl⟩ := r2
        have es : sndD dx = q := by unfold sndD; rw [e6]
        refine ⟨b, _, rfl, hq2, rfl, vp, _, rfl, vq, _, rfl, rfl, rfl, _, rfl, vq, .ty "bool", _, _, _, rfl, .ty "bool", hqq.ty, kit_bool q, ?_⟩
        have := kk H' (Same.refl _)
        rw [es] at this
        exact this
      refine ⟨_, rfl, ?_⟩
      cases eb : dks.all (fun x => (sndD x).isBool) with
      | false =>
        refine iteT ?_
        exact no (by rw [eg, eb]; rfl) H4 (s13.trans s4)
      | true =>
      refine iteF ?_
      rw [eb] at eg
      refine all_lc (K := K) (σ := [some (.ref a), some vk, some (.ref at_), some vn, some vr, none, none, none, none, none]) (vs := [6, 8]) (tl := tVar 2) (te := tAndV (tCB (rIsi K) (tCons (tVar 8) (tCons (tC (.ty "str")) tNil))) (tOp (rIn K false) (tVar 8) (tTup (tCons (tC (.str "we")) (tCons (tC (.str "they")) tNil))))) (g := gSeq K 2 (gCons (gName 6) (gCons (gName 8) gNil))) (S := S) (d := dt) (ds := dts) (v := .ref at_) (fun x => isHandG (sndD x)) ((rt.same s23).same s4) hdt (by omega) (fun R h => ⟨_, rfl, h⟩) (fun dx x H' R hm sm' hx kk => ?_) mono_seq2 fun H5 s5 => ?_
      · obtain ⟨p, q, e6⟩ := pair_items (pt dx hm)
        obtain ⟨b, vs2, rfl, hq2, r2⟩ := hx.seq (K := K) e6
        obtain ⟨vp, r3, rfl, hp, vq, r4, rfl, hqq, rfl⟩ := r2
        have es : sndD dx = q := by unfold sndD; rw [e6]
        rw [es] at kk
        refine ⟨b, _, rfl, hq2, rfl, vp, _, rfl, vq, _, rfl, rfl, rfl, _, rfl, vq, .ty "str", _, _, _, rfl, .ty "str", hqq.ty, kit_str q, _, rfl, ?_⟩
        cases e7 : q.isStr with
        | false =>
          refine iteF ?_
          have e8 : isHandG q = false := by cases q <;> first | rfl | cases e7
          rw [e8] at kk
          exact kk H' (Same.refl _)
        | true =>
          obtain ⟨z, rfl⟩ : ∃ z, q = .str z := by cases q <;> first | exact ⟨_, rfl⟩ | cases e7
          cases (show vq = .str z from hqq)
          refine iteT ⟨_, rfl, by show 2 ≤ sizeLine; decide, fun p hp => ⟨p, _, rfl, .inr (SqT.of upd_same), rfl, rfl, ?_⟩⟩
          have e8 : isHandG (.str z) = inV (.str z) [.str "we", .str "they"] := by
            rw [show ([.str "we", .str "they"] : List V) = (["we", "they"] : List Str).map V.str from rfl, inV_strs]
            unfold isHandG
            rw [Bool.eq_iff_iff]
            simp
          rw [e8] at kk
          exact kk _ (Same.new hp)
      refine ⟨_, rfl, ?_⟩
      have s35 := s4.trans s5
      have s15 := s13.trans s35
      cases eh : dts.all (fun x => isHandG (sndD x)) with
      | false =>
        refine iteT ?_
        exact no (by rw [eg, eh]; rfl) H5 s15
      | true =>
      refine iteF ?_
      rw [eh] at eg
      have fa : ∀ x ∈ dks, fstB x = true := fun x hx => pair_fst (pk x hx)
      have fb : ∀ x ∈ dts, fstB x = true := fun x hx => pair_fst (pt x hx)
      have eN : nmsG d = dks.map firstS ++ dts.map firstS := by
        unfold nmsG nmsP
        rw [hi]
        dsimp only
        rw [hdk, hdt]
      have ln : (nmsG d).length = dks.length + dts.length := by rw [eN, List.length_append, List.length_map, List.length_map]
      refine ⟨_, rfl, S, d, dk, dt, [dn, dr], dks, dts, _, rfl, hd.same s15, hi, hdk, hdt, fa, fb, by omega, by omega, fun H6 L s6 nL hL => ?_⟩
      have s16 := s15.trans s6
      refine ⟨_, rfl, L, nmsG d, rfl, .inl (SqL.of hL), by omega, _, rfl, L, _, rfl, .inl (SqL.of hL), rfl, _, rfl, ?_⟩
      refine ite2 (fun h => ?_) (fun h => ?_)
      · refine iteT ?_
        have nn : ¬ (nmsG d).Nodup := fun nd => by
          have e := (unlike_nodup (nmsG d)).mpr nd
          rw [e, List.length_map] at h
          rw [decide_eq_true rfl] at h
          cases h
        exact no (by rw [eg, decide_eq_false nn]; rfl) H6 s16
      have nd : (nmsG d).Nodup := (unlike_nodup (nmsG d)).mp (by
        cases q : decide (V.int (unlike (nmsG d) : Nat) = V.int ((((nmsG d).map V.str).length : Nat) : Int)) with
        | true =>
          have := of_decide_eq_true q
          injection this with this
          rw [List.length_map] at this
          omega
        | false => rw [q] at h; exact absurd rfl h)
      rw [decide_eq_true nd] at eg
      have s36 := s35.trans s6
      obtain ⟨ak, uk, evk, hqk, ruk⟩ := ((rk.same s23).same s36).seq (K := K) hdk
      subst evk
      have luk : uk.length = dks.length := ruk.length
      refine ⟨_, rfl, _, rfl, ak, uk, rfl, hqk, S, dn, vn, uk.length, rfl, (rn.same s23).same s36, fun H7 s7 => ⟨_, rfl, ?_⟩⟩
      rw [luk]
      have s17 := s16.trans s7
      have s37 := s36.trans s7
      cases eo : dn.isOf dks.length with
      | false =>
        refine iteT ?_
        exact no (by rw [eg, eo]; rfl) H7 s17
      | true =>
      refine iteF ?_
      rw [eo] at eg
      obtain ⟨dns, hdn, ldn⟩ : ∃ xs, dn.items? = some xs ∧ xs.length = dks.length := by
        unfold D.isOf at eo
        cases e : dn.items? with
        | none => rw [e] at eo; cases eo
        | some xs => rw [e] at eo; exact ⟨xs, rfl, eq_of_beq eo⟩
      have in_ : itemsL dn = dns := by unfold itemsL; rw [hdn]
      rw [in_] at eg
      have hL7 := s7 _ _ hL
      refine all_lc (K := K) (σ := [some (.ref a), some (.ref ak), some (.ref at_), some vn, some vr, some (.ref L), none, none, none, none]) (vs := [9]) (tl := tVar 3) (te := tAndV (tCB (rIsi K) (tCons (tVar 9) (tCons (tC (.ty "str")) tNil))) (tOp (rIn K false) (tVar 9) (tVar 5))) (g := gName 9) (S := S) (d := dn) (ds := dns) (v := vn) (isNextG (nmsG d)) ((rn.same s23).same s37) hdn (by omega) (fun R h => ⟨_, rfl, h⟩) (fun dx x H' R hm sm' hx kk => ?_) mono_name fun H8 s8 => ?_
      · refine ⟨rfl, _, rfl, x, .ty "str", _, _, _, rfl, .ty "str", hx.ty, kit_str dx, _, rfl, ?_⟩
        cases e7 : dx.isStr with
        | false =>
          refine iteF ?_
          have e8 : isNextG (nmsG d) dx = false := by cases dx <;> first | rfl | cases e7
          rw [e8] at kk
          exact kk H' (Same.refl _)
        | true =>
          obtain ⟨z, rfl⟩ : ∃ z, dx = .str z := by cases dx <;> first | exact ⟨_, rfl⟩ | cases e7
          cases (show x = .str z from hx)
          refine iteT ⟨_, rfl, _, rfl, L, _, rfl, .inl (SqL.of (sm' _ _ hL7)), rfl, flat_strs _, ?_⟩
          have e8 : isNextG (nmsG d) (.str z) = inV (.str z) ((nmsG d).map V.str) := by
            rw [inV_strs]
            rfl
          rw [e8] at kk
          exact kk H' (Same.refl _)
      refine ⟨_, rfl, ?_⟩
      have s18 := s17.trans s8
      cases ex : dns.all (isNextG (nmsG d)) with
      | false =>
        refine iteT ?_
        exact no (by rw [eg, ex]; rfl) H8 s18
      | true =>
      refine iteF ?_
      rw [ex] at eg
      refine ⟨_, rfl, _, rfl, S, dr, vr, L, nmsG d, rfl, s8 _ _ hL7, nd, by omega, ((rr4.same s23).same s37).same s8, r1, fr, fun H9 s9 => ?_⟩
      have := k H9 (s18.trans s9)
      rw [eg] at this
      exact this
end
end Q1
set_option Elab.async false
set_option linter.all false
set_option maxRecDepth 100000
set_option maxHeartbeats 4000000
namespace Q1
open PySem L2 LamX
section
variable {P : Program} {w : World} {K : PySem.W.Frag} {mg : Str → Option Value} {base : Heap}
/-! ### need_game -/
abbrev sNeedG : Stmt := top 18
theorem scNeedG : FnScope ["game"] ["game"] (defScope sNeedG) := ⟨rfl, rfl, rfl, by decide +kernel, rfl, by decide +kernel, by decide +kernel⟩
/-- what is_game rests on -/
structure Gm (K : PySem.W.Frag) (mg : Str → Option Value) where
  isL : Dn K mg "is_list" sIsList ["thing"]
  isT : Dn K mg "is_tuple_of" sIsTupleOf ["thing", "length"]
  isN : Dn K mg "is_name" sIsName ["thing"]
  lits : Dn K mg "literal_list" sLits ["places", "thing"]
  ap : Dn K mg "are_pairs" sAp ["thing"]
  ac : Dn K mg "are_clauses" sAc ["names", "thing"]
  ng : Dn K mg "names_of_game" sNg ["game"]
  ig : Dn K mg "is_game" sIg ["thing"]
  need : Dn K mg "need_game" sNeedG ["game"]
def spNeedG (CG : Addr) : Sp := fun vs H Q E => ∃ (S : Addr → Prop) (d : D) (v : V), vs = [v] ∧ Rep S H d v ∧ GameIn d ∧
  ((gameB d = true ∧ ∀ H', Same H H' → Q .non H') ∨ (gameB d = false ∧ ∀ H' dd, Same H H' → H' dd = some (.xd [("game", v)]) → E (.ref CG) (some dd) H'))
theorem ok_needG (B : Bt mg) (C : Cs mg) (N : Gm K mg) (R : Er1 K mg "BadGame" "BadGame.__init__" (sErr 13) "game") : FnOk P w K mg base (L2.CX P w) 6 N.need.f N.need.fd ["game"] (spNeedG R.C) := by
  have E5 : FnOk P w K mg base (L2.CX P w) 1 R.fI R.fd ["self", "game"] (spErr1 R.C "game") := ok_err13 R
  have GI : FnOk P w K mg base CX0 5 N.ig.f N.ig.fd ["thing"] spIg := ok_ig B C N.ig N.isL N.isT N.isN N.lits N.ap N.ac N.ng
  refine N.need.F.okX scNeedG (fun vs H Q E h => ?_) (fun cdv A outer s H vs Q E hr h => ?_)
  · obtain ⟨S, d, v, rfl, _⟩ := h
    rfl
  · obtain ⟨S, d, v, rfl, hd, gi, k⟩ := h
    refine ⟨_, pss_one (ps_if (pt_not (pt_val (pe_call GI hr (by rfl) N.ig.g N.ig.F.kp N.ig.b .nil pass0 (pa_cons (pv 0) pa_nil)) (fun _ => rfl)))
      (pss_one (ps_raise rfl (takes_of rfl rfl rfl rfl) (pmk_oex R.T R.iC R.tI E5 (hr.mono (by decide)) R.b .nil passL (by rfl) R.g (pa_cons (pv 0) pa_nil)))) pss_nil), ?_⟩
    refine ⟨_, rfl, S, d, v, rfl, hd, gi, fun H1 s1 => ⟨_, rfl, ?_⟩⟩
    rcases k with ⟨eg, k⟩ | ⟨eg, k⟩
    · rw [eg]
      exact iteF (k H1 s1)
    · rw [eg]
      refine iteT ?_
      refine ⟨_, rfl, (by show 1 ≤ 1000; decide), fun a ha => ⟨a, v, rfl, upd_same, fun e h1 h2 => ⟨rfl, e, [("game", v)], upd_same, (by rw [upd_ne h2]; exact upd_same), ?_, ?_⟩⟩⟩
      · rw [upd_ne h2] at h1
        exact h1
      · exact k _ e (s1.trans (err_same (y := exd e [("game", v)]) (z := exo a R.C (some e)) (u := .xd [("game", v)]) ha h1)) upd_same
end
end Q1
set_option Elab.async false
set_option linter.all false
set_option maxRecDepth 100000
set_option maxHeartbeats 4000000
namespace Q1
open PySem L2 LamX
theorem strs_reps {S : Addr → Prop} {H : Hp} : ∀ {ms : List Str} {vs : List V}, Reps S H (ms.map D.str) vs → vs = ms.map V.str
  | [], _, h => h
  | m :: ms, _, h => by
    obtain ⟨v, r, rfl, h1, h2⟩ := h
    cases (show v = .str m from h1)
    rw [strs_reps h2]
    rfl
def strOf : D → Str
  | .str x => x
  | _ => ""
theorem names_strs : ∀ {ds : List D}, ds.all D.isName = true → ds = (ds.map strOf).map D.str
  | [], _ => rfl
  | d :: ds, h => by
    have h : (d.isName && ds.all D.isName) = true := h
    rw [Bool.and_eq_true] at h
    have e : d = .str (strOf d) := by cases d <;> first | rfl | cases h.1
    show d :: ds = .str (strOf d) :: (ds.map strOf).map D.str
    rw [← e, ← names_strs h.2]
/-- what is a sum -/
def sumB (d : D) : Bool := match d.items? with
  | some [l, b] => l.isList && (b.isBool && ((itemsL l).all D.isName && decide ((itemsL l).map strOf).Nodup))
  | _ => false
theorem not_two {d : D} (h : d.isOf 2 = false) : sumB d = false := by
  unfold D.isOf at h
  unfold sumB
  cases e : d.items? with
  | none => rfl
  | some xs =>
    rw [e] at h
    match xs, h with
    | [p, q], h => cases h
    | [], _ => rfl
    | [_], _ => rfl
    | _ :: _ :: _ :: _, _ => rfl
section
variable {P : Program} {w : World} {K : PySem.W.Frag} {mg : Str → Option Value} {base : Heap}
/-! ### is_sum -/
abbrev sIs : Stmt := top 22
abbrev nIs : List Str := ["thing", "name"]
theorem scIs : FnScope nIs ["thing"] (defScope sIs) := ⟨rfl, rfl, rfl, by decide +kernel, rfl, by decide +kernel, by decide +kernel⟩
def spIs : Sp := fun vs H Q _ => ∃ (S : Addr → Prop) (d : D) (v : V), vs = [v] ∧ Rep S H d v ∧ (∀ l b, d.items? = some [l, b] → ∀ ds, l.items? = some ds → ds.length ≤ 400 ∧ ∀ x ∈ ds, x.short) ∧ ∀ H', Same H H' → Q (.bl (sumB d)) H'
theorem ok_is (B : Bt mg) (C : Cs mg) (N : Dn K mg "is_sum" sIs ["thing"]) (NL : Dn K mg "is_list" sIsList ["thing"]) (NT : Dn K mg "is_tuple_of" sIsTupleOf ["thing", "length"]) (NN : Dn K mg "is_name" sIsName ["thing"]) : FnOk P w K mg base CX0 3 N.f N.fd ["thing"] spIs := by
  have GL : FnOk P w K mg base CX0 1 NL.f NL.fd ["thing"] spIsList := ok_isList B NL
  have GT : FnOk P w K mg base CX0 2 NT.f NT.fd ["thing", "length"] spIsTupleOf := ok_isTupleOf B NT NL
  have GN : FnOk P w K mg base CX0 1 NN.f NN.fd ["thing"] spIsName := ok_isName B C NN
  refine N.F.ok scIs (fun vs H Q E h => ?_) (fun cdv A outer s H vs Q E hr h => ?_)
  · obtain ⟨S, d, v, rfl, _⟩ := h
    rfl
  · obtain ⟨S, d, v, rfl, hd, hsm, k⟩ := h
    refine ⟨_, pss_cons (ps_if (PW.pt (pw_or (pt_not (pt_val (pe_call GT (hr.mono (by decide)) (by rfl) NT.g NT.F.kp NT.b .nil pass0 (pa_cons (pv 0) (pa_cons pe_int pa_nil))) (fun _ => rfl)))
          (pw_or (pt_not (pt_val (pe_call GL (hr.mono (by decide)) (by rfl) NL.g NL.F.kp NL.b .nil pass0 (pa_cons (pe_ix ix_seqA (pv 0) pe_int (fun _ _ => rfl)) pa_nil)) (fun _ => rfl)))
          (pw_or1 (pt_not (pt_val (pe_callB call_isi (by rfl) B.isi PyProof.Rows.boot_isinstance (pa_cons (pe_ix ix_seqA (pv 0) pe_int (fun _ _ => rfl)) (pa_cons (gt B.bool PyProof.Rows.boot_bool) pa_nil))) (fun _ => rfl))))))) (pss_one (ps_ret pe_bl)) pss_nil)
      (pss_one (ps_ret (pe_and (pe_callB (cr_all rfl) (by rfl) B.all PyProof.Rows.boot_all (pa_cons
          (pe_lc (own := [("name", 1)]) (g := gName 1) (tt := tYes) (te := tCall spIsName [] E0 (tCons (tVar 1) tNil)) rfl scIs.nd (pi_seq (pe_ix ix_seqA (pv 0) pe_int (fun _ _ => rfl))) (blkOk_by (own := [("name", 1)]) (N := nIs) (sc := defScope sIs) (by decide +kernel))
            (fun _ _ _ _ _ => pg_name (i := 1) scIs.nd rfl (Or.inl rfl)) (fun _ _ _ _ _ => pts_nil) (fun _ _ _ _ _ => pe_call GN (hr.mono (by decide)) (by rfl) NN.g NN.F.kp NN.b .nil pass0 (pa_cons (pv 1) pa_nil))) pa_nil))
        (pe_one (pe_cmpR op_eq (pe_lenS rfl (by rfl) B.len (by rfl) B.set (pe_ix ix_seqA (pv 0) pe_int (fun _ _ => rfl))) (pe_callB call_len_seq (by rfl) B.len boot_len (pa_cons (pe_ix ix_seqA (pv 0) pe_int (fun _ _ => rfl)) pa_nil)) (nomark _)))))), ?_⟩
    have no : sumB d = false → ∀ H', Same H H' → Q (.bl false) H' := fun e H' s' => e ▸ k H' s'
    refine ⟨_, rfl, S, d, v, 2, rfl, hd, fun H1 s1 => ⟨_, rfl, ?_⟩⟩
    cases e2 : d.isOf 2 with
    | false =>
      refine iteT (iteT ?_)
      exact no (not_two e2) H1 s1
    | true =>
    refine iteF ?_
    obtain ⟨l, b, hi⟩ := isOf_two e2
    have eg : sumB d = (l.isList && (b.isBool && ((itemsL l).all D.isName && decide ((itemsL l).map strOf).Nodup))) := by
      conv => lhs; unfold sumB; rw [hi]
    obtain ⟨a, us, rfl, hq, rr⟩ := id ((hd.same s1).seq (K := K) hi)
    obtain ⟨vl, _, rfl, rl, vb, _, rfl, rb, rfl⟩ := rr
    refine ⟨_, rfl, a, _, 0, vl, rfl, rfl, hq, atI_nat (j := 0) rfl, S, l, vl, rfl, rl, fun H2 s2 => ⟨_, rfl, ?_⟩⟩
    have hq2 : SqL K H2 a [vl, vb] ∨ SqT K H2 a [vl, vb] := hq.elim (fun h => .inl (s2.seq h)) (fun h => .inr (seqT s2 h))
    have s12 := s1.trans s2
    cases el : l.isList with
    | false =>
      refine iteT (iteT ?_)
      exact no (by rw [eg, el]; rfl) H2 s12
    | true =>
    refine iteF ?_
    refine ⟨_, rfl, a, _, 1, vb, rfl, rfl, hq2, atI_nat (j := 1) rfl, vb, .ty "bool", _, _, _, rfl, .ty "bool", (rb.same s2).ty, kit_bool b, _, rfl, ?_⟩
    cases eb : b.isBool with
    | false =>
      refine iteT ?_
      exact no (by rw [eg, el, eb]; rfl) H2 s12
    | true =>
    refine iteF ?_
    rw [el, eb] at eg
    obtain ⟨ds, hl⟩ : ∃ ds, l.items? = some ds := by
      unfold D.isList at el
      cases e : l.items? with
      | none => rw [e] at el; cases el
      | some xs => exact ⟨xs, rfl⟩
    have il : itemsL l = ds := by unfold itemsL; rw [hl]
    rw [il] at eg
    obtain ⟨lds, sds⟩ := hsm l b hi ds hl
    refine all_lc (K := K) (σ := [some (.ref a), none]) (vs := [1]) (tl := tOp (rSeqA K) (tVar 0) (tC (.int 0))) (te := tCall spIsName [] E0 (tCons (tVar 1) tNil)) (g := gName 1) (S := S) (d := l) (ds := ds) (v := vl) D.isName (rl.same s2) hl (by omega) (fun R h => ⟨_, rfl, a, _, 0, vl, rfl, rfl, hq2, atI_nat (j := 0) rfl, h⟩) (fun dx x H' R hm sm' hx kk => ⟨rfl, _, rfl, S, dx, x, rfl, hx, sds dx hm, fun H3 s3 => kk H3 s3⟩) mono_name fun H3 s3 => ?_
    refine ⟨_, rfl, ?_⟩
    have s13 := s12.trans s3
    have hq3 : SqL K H3 a [vl, vb] ∨ SqT K H3 a [vl, vb] := hq2.elim (fun h => .inl (s3.seq h)) (fun h => .inr (seqT s3 h))
    cases en : ds.all D.isName with
    | false =>
      refine iteF ?_
      exact no (by rw [eg, en]; rfl) H3 s13
    | true =>
    refine iteT ?_
    rw [en] at eg
    obtain ⟨al, ul, evl, hql, rul⟩ := ((rl.same s2).same s3).seq (K := K) hl
    subst evl
    rw [names_strs en] at rul
    have eu := strs_reps rul
    subst eu
    refine ⟨_, rfl, a, _, 0, _, rfl, rfl, hq3, atI_nat (j := 0) rfl, al, _, rfl, hql, by rw [List.length_map]; omega, ?_⟩
    refine ⟨_, rfl, a, _, 0, _, rfl, rfl, hq3, atI_nat (j := 0) rfl, al, _, rfl, hql, rfl, ?_⟩
    have ee : decide (V.int (unlike (ds.map strOf) : Nat) = V.int ((((ds.map strOf).map V.str).length : Nat) : Int)) = decide (ds.map strOf).Nodup := by
      rw [Bool.eq_iff_iff, decide_eq_true_iff, decide_eq_true_iff, ← unlike_nodup, List.length_map, List.length_map]
      constructor
      · intro h
        injection h with h
        omega
      · intro h
        rw [h]
    rw [ee]
    have := k H3 s13
    rw [eg] at this
    exact this
end
end Q1
set_option Elab.async false
set_option linter.all false
set_option maxRecDepth 100000
set_option maxHeartbeats 4000000
namespace Q1
open PySem L2 LamX
/-- a comprehension over a list or a tuple, each turn only looking -/
theorem lc_pure {K : PySem.W.Frag} {S : Addr → Prop} {H1 : Hp} {σ : L2.St} {vs : List Nat} {Q : VK} {d : D} {ds : List D} {v : V} {tl te : TE} {g : TG} (f : D → V) (hd : Rep S H1 d v) (hi : d.items? = some ds) (hn : ds.length ≤ 1000)
    (ht : ∀ R : VK, R v H1 → tl σ H1 R) (body : ∀ dx x H' (R : VK), dx ∈ ds → Same H1 H' → Rep S H' dx x → (∀ H3, Same H' H3 → R (f dx) H3) → g x (wipe σ vs) H' fun σ2 H2 => wipe σ2 vs = wipe σ vs ∧ te σ2 H2 R)
    (mono : ∀ x σ' H' (R R2 : L2.St → Hp → Prop), (∀ a b, R a b → R2 a b) → g x σ' H' R → g x σ' H' R2) (k : ∀ H' L, Same H1 H' → H1 L = none → H' L = some (.lst (ds.map f)) → Q (.ref L) H') :
    tLc (iSeq K tl) g tYes te vs σ H1 Q := by
  obtain ⟨a, us, rfl, hq, rr⟩ := hd.seq (K := K) hi
  have hus : us.length = ds.length := rr.length
  refine ht _ ⟨a, rfl, lc_seq (ExtN.refl H1) hq (fun D0 i H' => Same H1 H' ∧ H' D0 = some (.lst ((ds.take i).map f))) (fun D0 hD => ⟨Same.new hD, upd_same⟩) (fun D0 i H' h => extN_of h.1) ?_ ?_⟩
  · rintro D0 hD i x H' hx ⟨sm', hz⟩
    have hsl : i < us.length := (List.getElem?_eq_some_iff.mp hx).1
    obtain ⟨dx, hdx, hrx⟩ := (rr.same sm').get hx
    refine mono _ _ _ _ _ (fun a b h => ⟨h.1, ?_⟩) (body dx x H' (fun y H4 => ∃ acc, H4 D0 = some (.lst acc) ∧ acc.length < sizeLine ∧ Same H1 (upd H4 D0 (.lst (acc ++ [y]))) ∧ upd H4 D0 (.lst (acc ++ [y])) D0 = some (.lst ((ds.take (i + 1)).map f))) (List.mem_of_getElem? hdx) sm' hrx fun H3 s3 => ?_)
    · unfold tYes
      exact iteT h.2
    · refine ⟨_, s3 _ _ hz, ?_, Same.at (sm'.trans s3) hD, ?_⟩
      · rw [List.length_map, List.length_take]
        exact Nat.lt_of_le_of_lt (show min i ds.length ≤ 1000 by omega) (by decide)
      · rw [upd_same, List.take_add_one, hdx, List.map_append]
        rfl
  · rintro D0 hD H' ⟨sm', hz⟩
    rw [hus, List.take_length] at hz
    exact k H' D0 sm' hD hz
/-- f(of a comprehension) -/
theorem call_lc {K : PySem.W.Frag} {S : Addr → Prop} {H1 : Hp} {σ : L2.St} {vs : List Nat} {Q : VK} {d : D} {ds : List D} {v : V} {tl te : TE} {g : TG} {r : List V → Hp → VK → Prop} (f : D → V) (hd : Rep S H1 d v) (hi : d.items? = some ds) (hn : ds.length ≤ 1000)
    (ht : ∀ R : VK, R v H1 → tl σ H1 R) (body : ∀ dx x H' (R : VK), dx ∈ ds → Same H1 H' → Rep S H' dx x → (∀ H3, Same H' H3 → R (f dx) H3) → g x (wipe σ vs) H' fun σ2 H2 => wipe σ2 vs = wipe σ vs ∧ te σ2 H2 R)
    (mono : ∀ x σ' H' (R R2 : L2.St → Hp → Prop), (∀ a b, R a b → R2 a b) → g x σ' H' R → g x σ' H' R2) (k : ∀ H' L, Same H1 H' → H1 L = none → H' L = some (.lst (ds.map f)) → r [.ref L] H' Q) :
    tCB r (tCons (tLc (iSeq K tl) g tYes te vs) tNil) σ H1 Q := by
  show tLc (iSeq K tl) g tYes te vs σ H1 (fun x H2 => r [x] H2 Q)
  exact lc_pure f hd hi hn ht body mono k
structure Bt2 (mg : Str → Option Value) : Prop where
  any : mg "any" = none
/-- a sum as a number -/
def codeS (names ms : List Str) (t : Bool) : Nat := (if t then 1 else 0) + (ms.map fun m => mbM (names.idxOf m)).sum
section
variable {P : Program} {w : World} {K : PySem.W.Frag} {mg : Str → Option Value} {base : Heap}
/-! ### sum_code -/
abbrev sSuc : Stmt := top 24
abbrev nSuc : List Str := ["places", "thing", "name"]
theorem scSuc : FnScope nSuc ["places", "thing"] (defScope sSuc) := ⟨rfl, rfl, rfl, by decide +kernel, rfl, by decide +kernel, by decide +kernel⟩
/-- the sum's marks and truth, if it is one of these names -/
def sumOf (names : List Str) (d : D) : Option (List Str × Bool) := match d.items? with
  | some [l, .bl t] => if sumB d = true ∧ ∀ m ∈ (itemsL l).map strOf, m ∈ names then some ((itemsL l).map strOf, t) else none
  | _ => none
theorem sum_items {d : D} (h : sumB d = true) : ∃ l t ds, d.items? = some [l, .bl t] ∧ l.items? = some ds ∧ ds = (ds.map strOf).map D.str ∧ (ds.map strOf).Nodup := by
  unfold sumB at h
  cases e : d.items? with
  | none => rw [e] at h; cases h
  | some xs =>
    rw [e] at h
    match xs, h with
    | [l, b], h =>
      simp only [Bool.and_eq_true, decide_eq_true_eq] at h
      obtain ⟨h1, h2, h3, h4⟩ := h
      obtain ⟨ds, hl⟩ : ∃ ds, l.items? = some ds := by
        unfold D.isList at h1
        cases e : l.items? with
        | none => rw [e] at h1; cases h1
        | some xs => exact ⟨xs, rfl⟩
      have il : itemsL l = ds := by unfold itemsL; rw [hl]
      rw [il] at h3 h4
      obtain ⟨t, rfl⟩ : ∃ t, b = .bl t := by cases b <;> first | exact ⟨_, rfl⟩ | cases h2
      exact ⟨l, t, ds, rfl, hl, names_strs h3, h4⟩
theorem sumOf_none {names : List Str} {d : D} (h : sumB d = false) : sumOf names d = none := by
  unfold sumOf
  split
  · rw [if_neg (fun z => by rw [h] at z; cases z.1)]
  · rfl
theorem sumOf_eq {names : List Str} {d l : D} {t : Bool} {ds : List D} (h : sumB d = true) (hi : d.items? = some [l, .bl t]) (hl : l.items? = some ds) : sumOf names d = if ∀ m ∈ ds.map strOf, m ∈ names then some (ds.map strOf, t) else none := by
  have il : itemsL l = ds := by unfold itemsL; rw [hl]
  unfold sumOf
  rw [hi]
  dsimp only
  rw [il]
  by_cases z : ∀ m ∈ ds.map strOf, m ∈ names
  · rw [if_pos ⟨h, z⟩, if_pos z]
  · rw [if_neg (fun y => z y.2), if_neg z]
theorem sum_cast : ∀ ns : List Nat, (ns.map fun n => ((n : Nat) : Int)).sum = ((ns.sum : Nat) : Int)
  | [] => rfl
  | n :: ns => by
    rw [List.map_cons, List.sum_cons, List.sum_cons, sum_cast ns]
    omega
def spSuc : Sp := fun vs H Q _ => ∃ (S : Addr → Prop) (d : D) (v : V) (pl : Addr) (names : List Str), vs = [.ref pl, v] ∧ H pl = some (.dK (placesK names)) ∧ names.length ≤ 90 ∧ Rep S H d v ∧ (∀ l b, d.items? = some [l, b] → ∀ ds, l.items? = some ds → ds.length ≤ 400 ∧ ∀ x ∈ ds, x.short) ∧
  (∀ H', Same H H' → sumOf names d = none → Q .non H') ∧ ∀ H' ms t, Same H H' → sumOf names d = some (ms, t) → Q (.int (codeS names ms t : Nat)) H'
theorem ok_suc (B : Bt mg) (B2 : Bt2 mg) (C : Cs mg) (N : Dn K mg "sum_code" sSuc ["places", "thing"]) (NS : Dn K mg "is_sum" sIs ["thing"]) (NM : Dn K mg "mark_bit" sMb ["place"]) (NL : Dn K mg "is_list" sIsList ["thing"]) (NT : Dn K mg "is_tuple_of" sIsTupleOf ["thing", "length"]) (NN : Dn K mg "is_name" sIsName ["thing"]) : FnOk P w K mg base CX0 4 N.f N.fd ["places", "thing"] spSuc := by
  have GS : FnOk P w K mg base CX0 3 NS.f NS.fd ["thing"] spIs := ok_is B C NS NL NT NN
  have GM : FnOk P w K mg base CX0 1 NM.f NM.fd ["place"] spMb := ok_mb NM
  refine N.F.ok scSuc (fun vs H Q E h => ?_) (fun cdv A outer s H vs Q E hr h => ?_)
  · obtain ⟨S, d, v, pl, names, rfl, _⟩ := h
    rfl
  · obtain ⟨S, d, v, pl, names, rfl, hpl, hn, hd, hsm, k1, k2⟩ := h
    have hu := hu_of hr
    refine ⟨_, pss_cons (ps_if (PW.pt (pw_or (pt_not (pt_val (pe_call GS (hr.mono (by decide)) (by rfl) NS.g NS.F.kp NS.b .nil pass0 (pa_cons (pv 1) pa_nil)) (fun _ => rfl)))
          (pw_or1 (pt_val (pe_callB (cr_any rfl) (by rfl) B2.any PyProof.Rows.boot_any (pa_cons
            (pe_lc (own := [("name", 2)]) (g := gName 2) (tt := tYes) rfl scSuc.nd (pi_seq (pe_ix ix_seqA (pv 1) pe_int (fun _ _ => rfl))) (blkOk_by (own := [("name", 2)]) (N := nSuc) (sc := defScope sSuc) (by decide +kernel))
              (fun _ _ _ _ _ => pg_name (i := 2) scSuc.nd rfl (Or.inl rfl)) (fun _ _ _ _ _ => pts_nil) (fun _ _ _ _ _ => pe_cmp (pc_dnotin hu (pv 2) (pv 0)) (by rfl))) pa_nil)) (fun _ => rfl))))) (pss_one (ps_ret pe_non)) pss_nil)
      (pss_one (ps_ret (pe_op op_add (pe_callTy call_int1' (by rfl) B.int PyProof.Rows.boot_int (pa_cons (pe_ix ix_seqA (pv 1) pe_int (fun _ _ => rfl)) pa_nil))
        (pe_callB (cr_sum rfl) (by rfl) B.sum PyProof.Rows.boot_sum (pa_cons
          (pe_lc (own := [("name", 2)]) (g := gName 2) (tt := tYes) rfl scSuc.nd (pi_seq (pe_ix ix_seqA (pv 1) pe_int (fun _ _ => rfl))) (blkOk_by (own := [("name", 2)]) (N := nSuc) (sc := defScope sSuc) (by decide +kernel))
            (fun _ _ _ _ _ => pg_name (i := 2) scSuc.nd rfl (Or.inl rfl)) (fun _ _ _ _ _ => pts_nil) (fun _ _ _ _ _ => pe_call GM (hr.mono (by decide)) (by rfl) NM.g NM.F.kp NM.b .nil pass0 (pa_cons (pe_dget hu (pv 0) (pv 2) (fun _ _ => rfl)) pa_nil))) pa_nil))))), ?_⟩
    refine ⟨_, rfl, S, d, v, rfl, hd, hsm, fun H1 s1 => ⟨_, rfl, ?_⟩⟩
    cases es : sumB d with
    | false =>
      refine iteT (iteT ?_)
      exact k1 H1 s1 (sumOf_none es)
    | true =>
    refine iteF ?_
    obtain ⟨l, t, ds, hi, hl, eds, nd⟩ := sum_items es
    have eo := sumOf_eq (names := names) es hi hl
    obtain ⟨lds, sds⟩ := hsm l _ hi ds hl
    obtain ⟨a, us, rfl, hq, rr⟩ := id ((hd.same s1).seq (K := K) hi)
    obtain ⟨vl, _, rfl, rl, vb, _, rfl, rb, rfl⟩ := rr
    cases (show vb = .bl t from rb)
    have str : ∀ dx ∈ ds, dx = .str (strOf dx) := fun dx hx => by
      rw [eds] at hx
      obtain ⟨z, _, rfl⟩ := List.mem_map.mp hx
      rfl
    have hpl1 := s1 _ _ hpl
    refine call_lc (K := K) (σ := [some (.ref pl), some (.ref a), none]) (vs := [2]) (tl := tOp (rSeqA K) (tVar 1) (tC (.int 0))) (te := tDNotIn (tVar 2) (tVar 0)) (g := gName 2) (S := S) (d := l) (ds := ds) (v := vl) (fun dx => .bl (!decide (strOf dx ∈ names))) rl hl (by omega) (fun R h => ⟨_, rfl, a, _, 0, vl, rfl, rfl, hq, atI_nat (j := 0) rfl, h⟩) (fun dx x H' R hm sm' hx kk => ?_) mono_name fun H2 L s2 nL hL => ?_
    · have e := str dx hm
      rw [e] at hx
      cases (show x = .str (strOf dx) from hx)
      refine ⟨rfl, _, rfl, _, rfl, pl, _, rfl, DGet.k (k := Sum.inr (strOf dx)) (sm' _ _ hpl1), ?_⟩
      have := kk H' (Same.refl _)
      rw [← placesK_get names (strOf dx)] at this
      exact this
    have ea : (ds.map fun dx => V.bl (!decide (strOf dx ∈ names))) = (ds.map fun dx => !decide (strOf dx ∈ names)).map V.bl := by rw [List.map_map]; rfl
    rw [ea] at hL
    refine ⟨L, _, rfl, SqL.of hL, _, rfl, ?_⟩
    have s12 := s1.trans s2
    cases ey : (ds.map fun dx => !decide (strOf dx ∈ names)).any id with
    | true =>
      refine iteT ?_
      refine k1 H2 s12 ?_
      rw [eo, if_neg]
      intro z
      obtain ⟨b, hb, eb⟩ := List.any_eq_true.mp ey
      obtain ⟨dx, hx, rfl⟩ := List.mem_map.mp hb
      have := z (strOf dx) (List.mem_map_of_mem hx)
      simp [this] at eb
    | false =>
    refine iteF ?_
    have all : ∀ m ∈ ds.map strOf, m ∈ names := fun m hm => by
      obtain ⟨dx, hx, rfl⟩ := List.mem_map.mp hm
      have := List.any_eq_false.mp ey (!decide (strOf dx ∈ names)) (List.mem_map_of_mem (f := fun dx => !decide (strOf dx ∈ names)) hx)
      simpa using this
    rw [if_pos all] at eo
    have hq2 : SqL K H2 a [vl, .bl t] ∨ SqT K H2 a [vl, .bl t] := hq.elim (fun h => .inl (s2.seq h)) (fun h => .inr (seqT s2 h))
    have hpl2 := s2 _ _ hpl1
    refine ⟨_, rfl, a, _, 1, .bl t, rfl, rfl, hq2, atI_nat (j := 1) rfl, .inr ⟨t, rfl, ?_⟩⟩
    refine call_lc (K := K) (σ := [some (.ref pl), some (.ref a), none]) (vs := [2]) (tl := tOp (rSeqA K) (tVar 1) (tC (.int 0))) (te := tCall spMb [] E0 (tCons (tDGet (tVar 0) (tVar 2)) tNil)) (g := gName 2) (S := S) (d := l) (ds := ds) (v := vl) (fun dx => .int (mbM (names.idxOf (strOf dx)) : Nat)) (rl.same s2) hl (by omega) (fun R h => ⟨_, rfl, a, _, 0, vl, rfl, rfl, hq2, atI_nat (j := 0) rfl, h⟩) (fun dx x H' R hm sm' hx kk => ?_) mono_name fun H3 L2 s3 nL2 hL2 => ?_
    · have e := str dx hm
      rw [e] at hx
      cases (show x = .str (strOf dx) from hx)
      have hmem := all (strOf dx) (List.mem_map_of_mem hm)
      refine ⟨rfl, _, rfl, _, rfl, pl, _, rfl, (by rw [← placesK_at hmem]; exact DGet.k (k := Sum.inr (strOf dx)) (sm' _ _ hpl2)), names.idxOf (strOf dx), rfl, ?_, kk H' (Same.refl _)⟩
      have := List.idxOf_lt_length_of_mem hmem
      omega
    have ei : (ds.map fun dx => V.int ((mbM (names.idxOf (strOf dx)) : Nat) : Int)) = (((ds.map strOf).map fun m => mbM (names.idxOf m)).map fun n => ((n : Nat) : Int)).map V.int := by
      rw [List.map_map, List.map_map, List.map_map]
      rfl
    rw [ei] at hL2
    refine ⟨L2, _, rfl, SqL.of hL2, _, _, rfl, rfl, ?_⟩
    rw [sum_cast]
    have ec : ((if t then 1 else 0 : Int) + ((((ds.map strOf).map fun m => mbM (names.idxOf m)).sum : Nat) : Int)) = ((codeS names (ds.map strOf) t : Nat) : Int) := by
      unfold codeS
      cases t <;> simp
    show Q (.int ((if t then 1 else 0 : Int) + ((((ds.map strOf).map fun m => mbM (names.idxOf m)).sum : Nat) : Int))) H3
    rw [ec]
    exact k2 H3 _ _ (s12.trans s3) eo
end
end Q1
set_option Elab.async false
set_option linter.all false
set_option maxRecDepth 100000
set_option maxHeartbeats 4000000
namespace Q1
open PySem L2 LamX
section
variable {P : Program} {w : World} {K : PySem.W.Frag} {mg : Str → Option Value} {base : Heap}
/-! ### told_sum -/
abbrev sTs : Stmt := top 25
abbrev nTs : List Str := ["names", "code", "place", "name"]
theorem scTs : FnScope nTs ["names", "code"] (defScope sTs) := ⟨rfl, rfl, rfl, by decide +kernel, rfl, by decide +kernel, by decide +kernel⟩
def tellG (c : Nat) : Nat → List Str → List Str
  | _, [] => []
  | p, m :: ms => if c &&& mbM p = 0 then tellG c (p + 1) ms else m :: tellG c (p + 1) ms
/-- the names of a code's marks -/
def tellM (names : List Str) (c : Nat) : List Str := tellG c 0 names
/-- an int's truth -/
def tTru (K : PySem.W.Frag) (t : TE) : TT := fun σ H Q => t σ H fun x H' => ∃ k, TruV K x H' k ∧ Q k H'
theorem tellG_snoc (c : Nat) (m : Str) : ∀ (ms : List Str) (p : Nat), tellG c p (ms ++ [m]) = tellG c p ms ++ (if c &&& mbM (p + ms.length) = 0 then [] else [m])
  | [], p => by
    show (if c &&& mbM p = 0 then tellG c (p + 1) [] else m :: tellG c (p + 1) []) = _
    show (if c &&& mbM p = 0 then ([] : List Str) else [m]) = [] ++ (if c &&& mbM p = 0 then [] else [m])
    rw [List.nil_append]
  | x :: ms, p => by
    have ih := tellG_snoc c m ms (p + 1)
    rw [show p + 1 + ms.length = p + (x :: ms).length by rw [List.length_cons]; omega] at ih
    show (if c &&& mbM p = 0 then tellG c (p + 1) (ms ++ [m]) else x :: tellG c (p + 1) (ms ++ [m])) = (if c &&& mbM p = 0 then tellG c (p + 1) ms else x :: tellG c (p + 1) ms) ++ _
    rw [ih]
    split <;> rfl
theorem tellG_len (c : Nat) : ∀ (ms : List Str) (p : Nat), (tellG c p ms).length ≤ ms.length
  | [], p => Nat.le_refl _
  | m :: ms, p => by
    have := tellG_len c ms (p + 1)
    show (if c &&& mbM p = 0 then tellG c (p + 1) ms else m :: tellG c (p + 1) ms).length ≤ ms.length + 1
    split
    · omega
    · rw [List.length_cons]; omega
def spTs : Sp := fun vs H Q _ => ∃ (l : Addr) (names : List Str) (c : Nat), vs = [.ref l, .int (c : Nat)] ∧ H l = some (.lst (names.map V.str)) ∧ names.length ≤ 90 ∧
  ∀ H' t L, Same H H' → H L = none → H' t = some (.tup [.ref L, .bl (c % 2 == 1)]) → H' L = some (.lst ((tellM names c).map V.str)) → Q (.ref t) H'
theorem ok_ts (B : Bt mg) (N : Dn K mg "told_sum" sTs ["names", "code"]) (NM : Dn K mg "mark_bit" sMb ["place"]) : FnOk P w K mg base CX0 2 N.f N.fd ["names", "code"] spTs := by
  have GM : FnOk P w K mg base CX0 1 NM.f NM.fd ["place"] spMb := ok_mb NM
  refine N.F.ok scTs (fun vs H Q E h => ?_) (fun cdv A outer s H vs Q E hr h => ?_)
  · obtain ⟨l, names, c, rfl, _⟩ := h
    rfl
  · obtain ⟨l, names, c, rfl, hl, hn, k⟩ := h
    refine ⟨_, pss_one (ps_ret (pe_tup (pa_cons
        (pe_lc (own := [("place", 2), ("name", 3)]) (g := gTup K 2 (gCons (gName 2) (gCons (gName 3) gNil))) (tt := tTru K (tOp (rI0 fun i j => .int (Builtin.bitAnd i j)) (tVar 1) (tCall spMb [] E0 (tCons (tVar 2) tNil)))) (te := tVar 3) rfl scTs.nd (pi_enum (by rfl) B.enumerate (pa_cons (pv 0) pa_nil)) (blkOk_by (own := [("place", 2), ("name", 3)]) (N := nTs) (sc := defScope sTs) (by decide +kernel))
          (fun _ _ _ _ _ => pg_tup (by rfl) (pgs_cons (pg_name (i := 2) scTs.nd (by rfl) (Or.inl (by rfl)) (by exact .inr rfl)) (pgs_cons (pg_name (i := 3) scTs.nd (by rfl) (Or.inl (by rfl)) (by exact .inr rfl)) pgs_nil)))
          (fun _ _ _ _ _ => pts_one (pt_truth (pe_op op_and (pv 1) (pe_call GM hr (by rfl) NM.g NM.F.kp NM.b .nil pass0 (pa_cons (pv 2) pa_nil))) (fun _ => rfl))) (fun _ _ _ _ _ => pv 3))
        (pa_cons (pe_cmpR op_eq (pe_op op_and (pv 1) pe_int) pe_int (nomark _)) pa_nil)))), ?_⟩
    refine ⟨_, rfl, l, _, rfl, SqL.of hl, fun D0 hD => ?_⟩
    refine lc_it walk_enum (fun i H' => Same H H' ∧ H' D0 = some (.lst ((tellM (names.take i) c).map V.str))) ⟨Same.new hD, upd_same⟩ (fun i H' _ h => SqL.of (h.1 _ _ hl)) ?_ ?_
    · rintro i x H' H2 hi ⟨sm', hz⟩ ⟨T0, v1, v2, rfl, hT0, rfl, hv1, hv2⟩
      cases hv1
      have hv2 : (names.map V.str)[i]? = some v2 := hv2
      rw [List.getElem?_map] at hv2
      cases hq3 : names[i]? with
      | none => rw [hq3] at hv2; cases hv2
      | some m =>
        rw [hq3] at hv2
        cases hv2
        have hil : i < names.length := (List.getElem?_eq_some_iff.mp hq3).1
        have sT : Same H' (upd H' T0 (.tup [.int (i : Nat), .str m])) := Same.new hT0
        have hzT := sT _ _ hz
        have et : tellM (names.take (i + 1)) c = tellM (names.take i) c ++ (if c &&& mbM i = 0 then [] else [m]) := by
          unfold tellM
          rw [List.take_add_one, hq3]
          show tellG c 0 (names.take i ++ [m]) = _
          rw [tellG_snoc, List.length_take, Nat.min_eq_left (by omega), Nat.zero_add]
        have tl := tellG_len c (names.take i) 0
        rw [List.length_take] at tl
        refine ⟨T0, _, rfl, SqT.of upd_same, rfl, ?_⟩
        refine ⟨_, _, rfl, _, _, rfl, rfl, ?_⟩
        refine ⟨rfl, ?_⟩
        refine ⟨_, rfl, _, rfl, i, rfl, by omega, _, _, rfl, rfl, _, rfl, ?_⟩
        refine ite2 (fun h => ?_) (fun h => ?_)
        · have hne : ¬ (c &&& mbM i = 0) := fun z => by
            have h : ((Builtin.bitAnd (c : Int) (mbM i : Nat)) != 0) = true := h
            rw [and_nat, z] at h
            exact absurd h (by decide)
          rw [if_neg hne] at et
          refine ⟨_, rfl, _, hzT, ?_, Same.at (sm'.trans sT) hD, ?_⟩
          · rw [List.length_map]
            exact Nat.lt_of_le_of_lt (show (tellM (names.take i) c).length ≤ 90 by unfold tellM; omega) (by decide)
          · rw [upd_same, et, List.map_append]
            rfl
        · have hz0 : c &&& mbM i = 0 := by
            have h : ¬ ((Builtin.bitAnd (c : Int) (mbM i : Nat)) != 0) = true := h
            rw [and_nat] at h
            by_cases z : c &&& mbM i = 0
            · exact z
            · exact absurd (bne_iff_ne.mpr (by omega)) h
          rw [if_pos hz0, List.append_nil] at et
          exact ⟨sm'.trans sT, by rw [et]; exact hzT⟩
    · rintro H1 ⟨s1, h1⟩
      rw [List.length_map, List.take_length] at h1
      have e0 : Builtin.bitAnd (c : Int) 1 = ((c % 2 : Nat) : Int) := by
        rw [show (1 : Int) = ((1 : Nat) : Int) from rfl, and_nat, Nat.and_one_is_mod]
      have e1 : decide (V.int (Builtin.bitAnd (c : Int) 1) = V.int 1) = (c % 2 == 1) := by
        rw [Bool.eq_iff_iff, decide_eq_true_iff, e0]
        rcases Nat.mod_two_eq_zero_or_one c with q | q <;> rw [q] <;> decide
      refine ⟨_, rfl, _, _, rfl, rfl, rfl, ?_⟩
      refine ⟨by show 2 ≤ sizeLine; decide, fun t ht => ?_⟩
      refine k _ t D0 (s1.trans (Same.new ht)) hD ?_ ((Same.new ht) _ _ h1)
      show upd H1 t (.tup [.ref D0, .bl (decide (V.int (Builtin.bitAnd (c : Int) 1) = V.int 1))]) t = _
      rw [upd_same, e1]
end
end Q1
set_option Elab.async false
set_option linter.all false
set_option maxRecDepth 100000
set_option maxHeartbeats 4000000
namespace Q1
open PySem L2 LamX
theorem letter_ok : ∀ c ∈ sLETTERS.cps.toList ++ sFIGURES.cps.toList, c < 0x110000 := by decide +kernel
theorem name_ok {m : Str} (h : isNameS m = true) : PyData.strOk m = true := by
  unfold isNameS at h
  simp only [Bool.and_eq_true] at h
  have h4 := h.2.2.2
  show m.cps.all (· < 0x110000) = true
  rw [← Array.all_toList, List.all_eq_true]
  intro c hc
  have := List.all_eq_true.mp h4 c hc
  refine decide_eq_true (letter_ok c ?_)
  unfold isLetter isFigure at this
  simp only [Bool.or_eq_true, decide_eq_true_eq] at this
  exact List.mem_append.mpr this
theorem eqv_strs : ∀ ms ns : List Str, PyData.eqvAll (pys (ms.map D.str)) (pys (ns.map D.str)) = decide (ms = ns)
  | [], [] => rfl
  | [], _ :: _ => rfl
  | _ :: _, [] => rfl
  | m :: ms, n :: ns => by
    have ih := eqv_strs ms ns
    show ((m == n) && PyData.eqvAll (pys (ms.map D.str)) (pys (ns.map D.str))) = _
    rw [ih, Bool.eq_iff_iff]
    simp
theorem rep_strs (H : Hp) : ∀ ms : List Str, Reps (fun _ => True) H (ms.map D.str) (ms.map V.str)
  | [] => rfl
  | m :: ms => ⟨_, _, rfl, rfl, rep_strs H ms⟩
theorem tellG_mem (c : Nat) : ∀ (ms : List Str) (p : Nat), ∀ x ∈ tellG c p ms, x ∈ ms
  | [], _, x, h => h
  | m :: ms, p, x, h => by
    have h : x ∈ (if c &&& mbM p = 0 then tellG c (p + 1) ms else m :: tellG c (p + 1) ms) := h
    split at h
    · exact List.mem_cons_of_mem _ (tellG_mem c ms (p + 1) x h)
    · rcases List.mem_cons.mp h with rfl | h
      · exact List.mem_cons_self
      · exact List.mem_cons_of_mem _ (tellG_mem c ms (p + 1) x h)
def sumS (names : List Str) (acc : List Nat) (x : D) : Option (List Nat) := match sumOf names x with
  | some (ms, t) => if tellM names (codeS names ms t) = ms then some (acc ++ [codeS names ms t]) else none
  | none => none
def firstSum (names : List Str) (d : D) : Option Nat := match d.items? with
  | none => some 0
  | some ds => stopAt (sumS names) ds [] 0
def codesOf (names : List Str) (d : D) : Option (List Nat) := match d.items? with
  | none => none
  | some ds => optFold (sumS names) ds []
theorem sumOf_some {names : List Str} {d : D} {ms : List Str} {t : Bool} (h : sumOf names d = some (ms, t)) : ∃ l, d.items? = some [l, .bl t] ∧ l.items? = some (ms.map D.str) ∧ ∀ m ∈ ms, m ∈ names := by
  cases es : sumB d with
  | false => rw [sumOf_none es] at h; cases h
  | true =>
    obtain ⟨l, t2, ds, hi, hl, eds, nd⟩ := sum_items es
    rw [sumOf_eq es hi hl] at h
    by_cases z : ∀ m ∈ ds.map strOf, m ∈ names
    · rw [if_pos z] at h
      cases h
      exact ⟨l, hi, by rw [hl, ← eds], z⟩
    · rw [if_neg z] at h
      cases h
def SumIn (d : D) : Prop := ∀ l b, d.items? = some [l, b] → ∀ ds, l.items? = some ds → ds.length ≤ 400 ∧ ∀ x ∈ ds, x.short
section
variable {P : Program} {w : World} {K : PySem.W.Frag} {mg : Str → Option Value} {base : Heap}
/-! ### need_sums -/
abbrev sNs : Stmt := top 26
abbrev nNs : List Str := ["names", "sums", "places", "codes", "index", "one", "code", "place", "name"]
theorem scNs : FnScope nNs ["names", "sums"] (defScope sNs) := ⟨rfl, rfl, rfl, by decide +kernel, rfl, by decide +kernel, by decide +kernel⟩
structure Sm (K : PySem.W.Frag) (mg : Str → Option Value) where
  isL : Dn K mg "is_list" sIsList ["thing"]
  isT : Dn K mg "is_tuple_of" sIsTupleOf ["thing", "length"]
  isN : Dn K mg "is_name" sIsName ["thing"]
  is_ : Dn K mg "is_sum" sIs ["thing"]
  mb : Dn K mg "mark_bit" sMb ["place"]
  suc : Dn K mg "sum_code" sSuc ["places", "thing"]
  ts : Dn K mg "told_sum" sTs ["names", "code"]
  need : Dn K mg "need_sums" sNs ["names", "sums"]
def spNs (CS : Addr) : Sp := fun vs H Q E => ∃ (S : Addr → Prop) (d : D) (v : V) (l : Addr) (names : List Str), vs = [.ref l, v] ∧ H l = some (.lst (names.map V.str)) ∧ names.Nodup ∧ names.length ≤ 90 ∧ (∀ m ∈ names, PyData.strOk m = true) ∧ Rep S H d v ∧ d.small ∧ (∀ ds, d.items? = some ds → ∀ x ∈ ds, SumIn x) ∧
  (∀ i : Nat, firstSum names d = some i → ∀ H' dd, Same H H' → H' dd = some (.xd [("index", .int (i : Nat))]) → E (.ref CS) (some dd) H') ∧ ∀ cs, codesOf names d = some cs → ∀ H' L, Same H H' → H L = none → H' L = some (.lst (cs.map fun (c : Nat) => V.int (c : Nat))) → Q (.ref L) H'
theorem ok_ns (B : Bt mg) (B2 : Bt2 mg) (C : Cs mg) (N : Sm K mg) (R : Er1 K mg "BadSums" "BadSums.__init__" (sErr 11) "index") : FnOk P w K mg base (L2.CX P w) 5 N.need.f N.need.fd ["names", "sums"] (spNs R.C) := by
  have E5 : FnOk P w K mg base (L2.CX P w) 1 R.fI R.fd ["self", "index"] (spErr1 R.C "index") := ok_err11 R
  have GL : FnOk P w K mg base CX0 1 N.isL.f N.isL.fd ["thing"] spIsList := ok_isList B N.isL
  have GS : FnOk P w K mg base CX0 4 N.suc.f N.suc.fd ["places", "thing"] spSuc := ok_suc B B2 C N.suc N.is_ N.mb N.isL N.isT N.isN
  have GT : FnOk P w K mg base CX0 2 N.ts.f N.ts.fd ["names", "code"] spTs := ok_ts B N.ts N.mb
  refine N.need.F.okX scNs (fun vs H Q E h => ?_) (fun cdv A outer s H vs Q E hr h => ?_)
  · obtain ⟨S, d, v, l, names, rfl, _⟩ := h
    rfl
  · obtain ⟨S, d, v, l, names, rfl, hl, nd, hn, hok, hd, sm, sin, kE, kQ⟩ := h
    refine ⟨_, pss_cons (ps_if (pt_not (pt_val (pe_call GL (hr.mono (by decide)) (by rfl) N.isL.g N.isL.F.kp N.isL.b .nil pass0 (pa_cons (pv 1) pa_nil)) (fun _ => rfl)))
          (pss_one (ps_raise rfl (takes_of rfl rfl rfl rfl) (pmk_oex R.T R.iC R.tI E5 (hr.mono (by decide)) R.b .nil passL (by rfl) R.g (pa_cons pe_int pa_nil)))) pss_nil)
      (pss_cons (ps_setDc (i := 2) (own := [("place", 7), ("name", 8)]) (g := gTup K 2 (gCons (gName 7) (gCons (gName 8) gNil))) (tt := tYes) (tk := tVar 8) (tv := tVar 7) (by rfl) scNs.nd rfl rfl (sw_dict rfl rfl rfl (by decide +kernel)) (pi_enum (by rfl) B.enumerate (pa_cons (pv 0) pa_nil)) (blkOk_by (own := [("place", 7), ("name", 8)]) (N := nNs) (sc := defScope sNs) (by decide +kernel))
          (fun _ _ _ _ _ => pg_tup (by rfl) (pgs_cons (pg_name (i := 7) scNs.nd (by rfl) (Or.inl (by rfl)) (by exact .inr rfl)) (pgs_cons (pg_name (i := 8) scNs.nd (by rfl) (Or.inl (by rfl)) (by exact .inr rfl)) pgs_nil))) (fun _ _ _ _ _ => pts_nil) (fun _ _ _ _ _ => pv 8) (fun _ _ _ _ _ => pv 7))
      (pss_cons (ps_set (i := 3) scNs.nd rfl (Or.inl rfl) (pe_lst pa_nil))
      (pss_cons (ps_for (passes_of rfl) rfl (pi_enumA (by rfl) B.enumerate (pa_cons (pv 1) pa_nil)) (pg_tup rfl (pgs_cons (pg_name (i := 4) scNs.nd rfl (Or.inl rfl)) (pgs_cons (pg_name (i := 5) scNs.nd rfl (Or.inl rfl)) pgs_nil)))
        (pss_cons (ps_set (i := 6) scNs.nd rfl (Or.inl rfl) (pe_call GS (hr.mono (by decide)) (by rfl) N.suc.g N.suc.F.kp N.suc.b .nil pass0 (pa_cons (pv 2) (pa_cons (pv 5) pa_nil))))
        (pss_cons (ps_if (PW.pt (pw_or (pt_cmp (pc_isN (pv 6)) (by rfl)) (pw_or1 (pt_cmpR (op_neD hr.units) (pe_ix ix_tup (pe_call GT (hr.mono (by decide)) (by rfl) N.ts.g N.ts.F.kp N.ts.b .nil pass0 (pa_cons (pv 0) (pa_cons (pv 6) pa_nil))) pe_int (fun _ _ => rfl)) (pe_callTy call_listOf (by rfl) B.lst PyProof.Rows.boot_list (pa_cons (pe_ix ix_seqA (pv 5) pe_int (fun _ _ => rfl)) pa_nil)) (nomark _)))))
          (pss_one (ps_raise rfl (takes_of rfl rfl rfl rfl) (pmk_oex R.T R.iC R.tI E5 (hr.mono (by decide)) R.b .nil passL (by rfl) R.g (pa_cons (pv 4) pa_nil)))) pss_nil)
        (pss_one (ps_expr (pe_bm PySem.F.plainAttrs_list PySem.F.slot_list_append PySem.F.type_list_append mt_append (pv 3) (pa_cons (pv 6) pa_nil)))))))
      (pss_one (ps_ret (pv 3)))))), ?_⟩
    have rz : ∀ (i : Nat) (H' : Hp) (a : Addr), firstSum names d = some i → Same H H' → H' a = none → ∀ dd, (upd H' a (exo a R.C none)) dd = none → dd ≠ a → E (.ref R.C) (some dd) (upd (del (upd (upd (upd H' a (exo a R.C none)) dd (exd dd [("index", .int (i : Nat))])) a (exo a R.C (some dd))) a) dd (.xd [("index", .int (i : Nat))])) := fun i H' a hf sm' ha dd h1 h2 =>
      kE i hf _ dd (sm'.trans (err_same (y := exd dd [("index", .int (i : Nat))]) (z := exo a R.C (some dd)) (u := .xd [("index", .int (i : Nat))]) ha h1)) upd_same
    refine ⟨_, rfl, S, d, v, rfl, hd, fun H1 s1 => ⟨_, rfl, ?_⟩⟩
    cases hi : d.items? with
    | none =>
      have e1 : d.isList = false := by unfold D.isList; rw [hi]; rfl
      rw [e1]
      refine iteT ?_
      refine ⟨(by show 1 ≤ 1000; decide), fun a ha => ⟨a, .int ((0 : Nat) : Int), rfl, upd_same, fun dd h1 h2 => ⟨rfl, dd, [("index", .int ((0 : Nat) : Int))], upd_same, (by rw [upd_ne h2]; exact upd_same), ?_, ?_⟩⟩⟩
      · rw [upd_ne h2] at h1
        exact h1
      · exact rz 0 H1 a (by unfold firstSum; rw [hi]) s1 ha dd h1 h2
    | some ds =>
    have e1 : d.isList = true := by unfold D.isList; rw [hi]; rfl
    have hsm : ds.length ≤ 1000 := by unfold D.small at sm; rw [hi] at sm; exact sm
    have hsi := sin ds hi
    rw [e1]
    refine iteF ?_
    have hl1 := s1 _ _ hl
    refine ⟨_, rfl, l, _, rfl, SqL.of hl1, fun pA hD => ?_⟩
    refine dc_it walk_enum (fun i H' => Same H1 H' ∧ H' pA = some (.dK (placesF 0 (names.take i)))) ⟨Same.new hD, upd_same⟩ (fun i H' _ h => SqL.of (h.1 _ _ hl1)) ?_ ?_
    · rintro i x H' H2 hi2 ⟨sm', hz⟩ ⟨T0, v1, v2, rfl, hT0, rfl, hv1, hv2⟩
      cases hv1
      have hv2 : (names.map V.str)[i]? = some v2 := hv2
      rw [List.getElem?_map] at hv2
      cases hq3 : names[i]? with
      | none => rw [hq3] at hv2; cases hv2
      | some m =>
        rw [hq3] at hv2
        cases hv2
        have hil : i < names.length := (List.getElem?_eq_some_iff.mp hq3).1
        have hlT : upd H' T0 (.tup [.int (i : Nat), .str m]) pA = some (.dK (placesF 0 (names.take i))) := Same.new hT0 _ _ hz
        refine ⟨T0, _, rfl, SqT.of upd_same, rfl, ?_⟩
        refine ⟨_, _, rfl, _, _, rfl, rfl, ?_⟩
        refine ⟨rfl, ?_⟩
        refine ⟨_, rfl, _, rfl, _, Sum.inr m, rfl, hlT, ?_, Same.at (sm'.trans (Same.new hT0)) hD, ?_⟩
        · have := congrArg List.length (placesF_keys 0 (names.take i))
          rw [List.length_map, List.length_map, List.length_take] at this
          exact Nat.lt_of_le_of_lt (show (placesF 0 (names.take i)).length ≤ 1000 by omega) (by decide)
        · rw [upd_same, List.take_add_one, hq3]
          have := placesF_put (names.take i) m (nodup_at nd hq3)
          rw [List.length_take, Nat.min_eq_left (by omega)] at this
          rw [this]
          rfl
    rintro H2 ⟨s2, h2⟩
    rw [List.length_map, List.take_length] at h2
    have s12 := s1.trans s2
    refine ⟨Nat.zero_le _, fun cA hcA => ?_⟩
    have s3 : Same H2 (upd H2 cA (.lst [])) := Same.new hcA
    have hc3 : upd H2 cA (.lst []) cA = some (.lst []) := upd_same
    generalize upd H2 cA (.lst []) = H3 at s3 hc3 ⊢
    obtain ⟨a, us, rfl, hq, rr⟩ := (hd.same s12).seq (K := K) hi
    have hus : us.length = ds.length := rr.length
    refine ⟨_, rfl, a, us, rfl, for_enumA (Hb := H2) hq (fun i σ H' => ∃ (cs : List Nat) (o4 o5 o6 : Option V), optFold (sumS names) (ds.take i) [] = some cs ∧ σ = [some (.ref l), some (.ref a), some (.ref pA), some (.ref cA), o4, o5, o6, none, none] ∧ Same H2 H' ∧ H' cA = some (.lst (cs.map fun (c : Nat) => V.int (c : Nat))) ∧ cs.length ≤ i)
      ⟨[], none, none, none, rfl, rfl, s3, hc3, Nat.le_refl _⟩ (fun i σ H' _ ⟨_, _, _, _, _, _, h, _⟩ => h) ?_ ?_⟩
    · rintro i T x σ H' hx ⟨cs, o4, o5, o6, ho, rfl, sm', hz, hcl⟩ hT
      have hsl : i < us.length := (List.getElem?_eq_some_iff.mp hx).1
      obtain ⟨dx, hdx, hrx⟩ := (rr.same sm').get hx
      have sT : Same H' (upd H' T (.tup [.int (i : Nat), x])) := Same.new hT
      refine ⟨T, _, rfl, SqT.of upd_same, rfl, ?_⟩
      refine ⟨_, _, rfl, _, _, rfl, rfl, ?_⟩
      generalize upd H' T (.tup [.int (i : Nat), x]) = H4 at sT ⊢
      have s24 := sm'.trans sT
      have s04 := s12.trans s24
      refine ⟨_, rfl, _, rfl, S, dx, x, pA, names, rfl, s24 _ _ h2, hn, hrx.same sT, hsi dx (List.mem_of_getElem? hdx), fun H5 s5 en => ?_, fun H5 ms t s5 es => ?_⟩
      · refine ⟨_, rfl, _, rfl, iteT (iteT ?_)⟩
        refine ⟨_, rfl, (by show 1 ≤ 1000; decide), fun b hb => ⟨b, .int (i : Nat), rfl, upd_same, fun dd h1 h2 => ⟨rfl, dd, [("index", .int (i : Nat))], upd_same, (by rw [upd_ne h2]; exact upd_same), ?_, ?_⟩⟩⟩
        · rw [upd_ne h2] at h1
          exact h1
        · refine rz i H5 b ?_ (s04.trans s5) hb dd h1 h2
          unfold firstSum
          rw [hi]
          have := stopAt_some (f := sumS names) 0 ho hdx (by unfold sumS; rw [en])
          rw [Nat.zero_add] at this
          exact this
      · refine ⟨_, rfl, _, rfl, iteF ?_⟩
        obtain ⟨lD, hxi, hli, hin⟩ := sumOf_some es
        have s05 := s04.trans s5
        have s25 := s24.trans s5
        refine ⟨_, rfl, _, rfl, l, names, codeS names ms t, rfl, s05 _ _ hl, hn, fun H6 t6 L6 s6 nL6 ht6 hL6 => ?_⟩
        refine ⟨t6, _, 0, .ref L6, rfl, rfl, SqT.of ht6, atI_nat (j := 0) rfl, ?_⟩
        obtain ⟨b, vs2, rfl, hq2, r2⟩ := (((hrx.same sT).same s5).same s6).seq (K := K) hxi
        obtain ⟨vl, _, rfl, rl, vb, _, rfl, rb, rfl⟩ := r2
        obtain ⟨al, ul, evl, hql, rul⟩ := rl.seq (K := K) hli
        subst evl
        have eu := strs_reps rul
        subst eu
        refine ⟨_, rfl, b, _, 0, .ref al, rfl, rfl, hq2, atI_nat (j := 0) rfl, al, _, rfl, hql, fun lA hlA => ?_⟩
        have s7 : Same H6 (upd H6 lA (.lst (ms.map V.str))) := Same.new hlA
        have hA7 : upd H6 lA (.lst (ms.map V.str)) lA = some (.lst (ms.map V.str)) := upd_same
        generalize upd H6 lA (.lst (ms.map V.str)) = H7 at s7 hA7 ⊢
        have ok1 : (D.lst ((tellM names (codeS names ms t)).map D.str)).ok 1 := oks_strs 0 fun x hx => hok x (tellG_mem _ names 0 x hx)
        have ok2 : (D.lst (ms.map D.str)).ok 1 := oks_strs 0 fun x hx => hok x (hin x hx)
        have r1 : Rep (fun _ => True) H7 (D.lst ((tellM names (codeS names ms t)).map D.str)) (.ref L6) := ⟨L6, _, rfl, trivial, s7 _ _ hL6, rep_strs _ _⟩
        have r2 : Rep (fun _ => True) H7 (D.lst (ms.map D.str)) (.ref lA) := ⟨lA, _, rfl, trivial, hA7, rep_strs _ _⟩
        have s57 := s6.trans s7
        have s07 := s05.trans s57
        have ee : (!PyData.eqv (D.lst ((tellM names (codeS names ms t)).map D.str)).py (D.lst (ms.map D.str)).py) = !decide (tellM names (codeS names ms t) = ms) := by
          rw [← eqv_strs]
          rfl
        refine ⟨_, _, r1.dp ok1, r2.dp ok2, D.ok_shaped ok1 (by decide), D.ok_shaped ok2 (by decide), _, rfl, ?_⟩
        rw [ee]
        by_cases et : tellM names (codeS names ms t) = ms
        · rw [decide_eq_true et]
          refine iteF ?_
          have hz7 := (sT.trans (s5.trans s57)) _ _ hz
          refine ⟨_, rfl, .inl ⟨rfl, _, SqL.of hz7⟩, _, rfl, cA, _, _, rfl, rfl, hz7, ?_, ?_⟩
          · rw [List.length_map]
            exact Nat.lt_of_le_of_lt (show cs.length ≤ 1000 by omega) (by decide)
          · refine ⟨cs ++ [codeS names ms t], some (.int (i : Nat)), some (.ref b), some (.int (codeS names ms t : Nat)), ?_, rfl, Same.at (s25.trans s57) hcA, ?_, ?_⟩
            · rw [List.take_add_one, hdx]
              show optFold (sumS names) (ds.take i ++ [dx]) [] = _
              rw [optFold_append, ho]
              have e2 : sumS names cs dx = some (cs ++ [codeS names ms t]) := by
                unfold sumS
                rw [es]
                dsimp only
                rw [if_pos et]
              show optFold (sumS names) [dx] cs = _
              unfold optFold
              rw [e2]
              rfl
            · rw [upd_same, List.map_append]
              rfl
            · rw [List.length_append]
              show cs.length + 1 ≤ i + 1
              omega
        · rw [decide_eq_false et]
          refine iteT ?_
          refine ⟨_, rfl, (by show 1 ≤ 1000; decide), fun b2 hb => ⟨b2, .int (i : Nat), rfl, upd_same, fun dd h1 h2 => ⟨rfl, dd, [("index", .int (i : Nat))], upd_same, (by rw [upd_ne h2]; exact upd_same), ?_, ?_⟩⟩⟩
          · rw [upd_ne h2] at h1
            exact h1
          · refine rz i H7 b2 ?_ s07 hb dd h1 h2
            unfold firstSum
            rw [hi]
            have := stopAt_some (f := sumS names) 0 ho hdx (by unfold sumS; rw [es]; dsimp only; rw [if_neg et])
            rw [Nat.zero_add] at this
            exact this
    · rintro σ H' ⟨cs, o4, o5, o6, ho, rfl, sm', hz, hcl⟩
      rw [hus, List.take_length] at ho
      refine ⟨_, rfl, ?_⟩
      exact kQ cs (by unfold codesOf; rw [hi]; exact ho) H' cA (s12.trans sm') (s12.free hcA) hz
end
end Q1
set_option Elab.async false
set_option linter.all false
set_option maxRecDepth 100000
set_option maxHeartbeats 4000000
namespace Q1
open PySem L2 LamX
/-! ### what xor of codes says -/
/-- whether a state breaks a code -/
def breakB (c s : Nat) : Bool := par ((c / 2) &&& (s / 2)) != (c % 2 == 1)
theorem hold_break (c s : Nat) : holdB c s = !breakB c s := by
  unfold holdB breakB
  cases par ((c / 2) &&& (s / 2)) <;> cases (c % 2 == 1) <;> rfl
theorem break_xor (c o s : Nat) : breakB (c ^^^ o) s = (breakB c s != breakB o s) := by
  unfold breakB
  have h2 : (c ^^^ o) / 2 = c / 2 ^^^ o / 2 := Nat.xor_div_two
  have h3 : ((c ^^^ o) % 2 == 1) = ((c % 2 == 1) != (o % 2 == 1)) := by
    have e2 : (c ^^^ o) % 2 = c % 2 ^^^ o % 2 := by have := Nat.xor_mod_two_pow (a := c) (b := o) (n := 1); simpa using this
    rw [e2]
    rcases Nat.mod_two_eq_zero_or_one c with p | p <;> rcases Nat.mod_two_eq_zero_or_one o with q | q <;> rw [p, q] <;> rfl
  rw [h2, h3, Nat.and_xor_distrib_right, par_xor]
  cases par ((c / 2) &&& (s / 2)) <;> cases par ((o / 2) &&& (s / 2)) <;> cases (c % 2 == 1) <;> cases (o % 2 == 1) <;> rfl
theorem hold_xor {c o s : Nat} (h : holdB o s = true) : holdB (c ^^^ o) s = holdB c s := by
  rw [hold_break] at h
  rw [hold_break, hold_break, break_xor]
  cases e : breakB o s with
  | true => rw [e] at h; cases h
  | false => cases breakB c s <;> rfl
/-- a state keeps all of them -/
def holdL (cs : List Nat) (s : Nat) : Bool := cs.all fun c => holdB c s
theorem hold_zero (s : Nat) : holdB 0 s = true := by
  unfold holdB
  simp [par]
  rfl
theorem hold_one (s : Nat) : holdB 1 s = false := by
  unfold holdB
  simp [par]
  rfl
/-! ### how long a code is -/
def lenB (c : Nat) : Nat := if c = 0 then 0 else c.log2 + 1
theorem lenB_bits (c : Nat) : Builtin.Int.intBits (c : Nat) = lenB c := by
  unfold Builtin.Int.intBits lenB
  by_cases h : c = 0
  · subst h; rfl
  · have : ¬ ((c : Int) == 0) = true := by simpa using h
    rw [if_neg this, if_neg h]
    rfl
theorem lenB_lt {c k : Nat} (h : c < 2 ^ k) : lenB c ≤ k := by
  unfold lenB
  split
  · omega
  · have := (Nat.log2_lt (by assumption)).mpr h
    omega
theorem lt_lenB (c : Nat) : c < 2 ^ lenB c := by
  unfold lenB
  split
  · subst_vars; decide
  · exact Nat.lt_log2_self
theorem xor_less {c o : Nat} (hc : c ≠ 0) (h : lenB c = lenB o) : lenB (c ^^^ o) < lenB c := by
  have ho : o ≠ 0 := fun z => by
    subst z
    unfold lenB at h
    rw [if_neg hc] at h
    simp at h
  have e1 : lenB c = c.log2 + 1 := by unfold lenB; rw [if_neg hc]
  have e2 : lenB o = o.log2 + 1 := by unfold lenB; rw [if_neg ho]
  have el : c.log2 = o.log2 := by omega
  have t1 : c.testBit c.log2 = true := Nat.testBit_log2 hc
  have t2 : o.testBit c.log2 = true := by rw [el]; exact Nat.testBit_log2 ho
  have b1 : c < 2 ^ (c.log2 + 1) := Nat.lt_log2_self
  have b2 : o < 2 ^ (c.log2 + 1) := by rw [el]; exact Nat.lt_log2_self
  have : c ^^^ o < 2 ^ c.log2 := by
    refine Nat.lt_pow_two_of_testBit _ fun i hi => ?_
    rw [Nat.testBit_xor]
    rcases Nat.lt_or_ge c.log2 i with q | q
    · rw [Nat.testBit_lt_two_pow (Nat.lt_of_lt_of_le b1 (Nat.pow_le_pow_right (by decide) q)), Nat.testBit_lt_two_pow (Nat.lt_of_lt_of_le b2 (Nat.pow_le_pow_right (by decide) q))]
      rfl
    · have : i = c.log2 := by omega
      rw [this, t1, t2]
      rfl
  have := lenB_lt this
  omega
/-! ### the rows by their lengths -/
def rowKV (H : Hp) : List Nat → List (Key × V) → Prop
  | [], kvs => kvs = []
  | r :: rs, kvs => ∃ (t : Addr) (lot : Int) (rest : List (Key × V)), kvs = (Sum.inl ((lenB r : Nat) : Int), .ref t) :: rest ∧ H t = some (.tup [.int (r : Nat), .int lot]) ∧ rowKV H rs rest
theorem rowKV.same {H H' : Hp} (s : Same H H') : ∀ {rs : List Nat} {kvs : List (Key × V)}, rowKV H rs kvs → rowKV H' rs kvs
  | [], _, h => h
  | _ :: _, _, h => by
    obtain ⟨t, lot, rest, rfl, ht, h2⟩ := h
    exact ⟨t, lot, rest, rfl, s _ _ ht, h2.same s⟩
theorem rowKV.off {H : Hp} {p : Addr} {o : HO} {kvs0 : List (Key × V)} (hp : H p = some (.dK kvs0)) : ∀ {rs : List Nat} {kvs : List (Key × V)}, rowKV H rs kvs → rowKV (upd H p o) rs kvs
  | [], _, h => h
  | _ :: _, _, h => by
    obtain ⟨t, lot, rest, rfl, ht, h2⟩ := h
    refine ⟨t, lot, rest, rfl, ?_, h2.off hp⟩
    rw [upd_ne (fun z => by rw [z, hp] at ht; cases ht)]
    exact ht
theorem rowKV.get {H : Hp} (n : Nat) : ∀ {rs : List Nat} {kvs : List (Key × V)}, rowKV H rs kvs → (valV kvs (Sum.inl (n : Int)) = none ∧ ∀ r ∈ rs, lenB r ≠ n) ∨ ∃ (r : Nat) (t : Addr) (lot : Int), r ∈ rs ∧ lenB r = n ∧ valV kvs (Sum.inl (n : Int)) = some (.ref t) ∧ H t = some (.tup [.int (r : Nat), .int lot])
  | [], _, h => by
    cases (show _ = [] from h)
    exact .inl ⟨rfl, fun r hr => by cases hr⟩
  | r :: rs, _, h => by
    obtain ⟨t, lot, rest, rfl, ht, h2⟩ := h
    by_cases e : lenB r = n
    · exact .inr ⟨r, t, lot, List.mem_cons_self, e, by rw [valV_pos (by rw [e])], ht⟩
    · have ne : ¬ ((Sum.inl ((lenB r : Nat) : Int) : Key) = Sum.inl (n : Int)) := fun z => e (by
        have := Sum.inl.inj z
        omega)
      rw [valV_neg ne]
      rcases rowKV.get n h2 with ⟨h3, h4⟩ | ⟨r2, t2, lot2, h3, h4, h5, h6⟩
      · refine .inl ⟨h3, fun x hx => ?_⟩
        rcases List.mem_cons.mp hx with rfl | hx
        · exact e
        · exact h4 x hx
      · exact .inr ⟨r2, t2, lot2, List.mem_cons_of_mem _ h3, h4, h5, h6⟩
theorem rowKV.snoc {H : Hp} {r : Nat} {t : Addr} {lot : Int} (ht : H t = some (.tup [.int (r : Nat), .int lot])) : ∀ {rs : List Nat} {kvs : List (Key × V)}, rowKV H rs kvs → rowKV H (rs ++ [r]) (kvs ++ [(Sum.inl ((lenB r : Nat) : Int), .ref t)])
  | [], _, h => by
    cases (show _ = [] from h)
    exact ⟨t, lot, [], rfl, ht, rfl⟩
  | _ :: _, _, h => by
    obtain ⟨t2, lot2, rest, rfl, ht2, h2⟩ := h
    exact ⟨t2, lot2, _, rfl, ht2, rowKV.snoc ht h2⟩
theorem rowKV.len {H : Hp} : ∀ {rs : List Nat} {kvs : List (Key × V)}, rowKV H rs kvs → kvs.length = rs.length ∧ kvs.map (·.1) = (rs.map fun r => ((lenB r : Nat) : Int)).map Sum.inl
  | [], _, h => by
    cases (show _ = [] from h)
    exact ⟨rfl, rfl⟩
  | r :: rs, _, h => by
    obtain ⟨t2, lot2, rest, rfl, ht2, h2⟩ := h
    obtain ⟨a, b⟩ := rowKV.len h2
    exact ⟨by rw [List.length_cons, List.length_cons, a], by rw [List.map_cons, b]; rfl⟩
theorem put_new {kvs : List (Key × V)} {k : Key} {v : V} (h : valV kvs k = none) : putK kvs k v = kvs ++ [(k, v)] := by
  unfold putK
  rw [if_neg]
  intro z
  obtain ⟨kv, hm, e⟩ := List.any_eq_true.mp z
  unfold valV at h
  rw [Option.map_eq_none_iff, List.find?_eq_none] at h
  exact h kv hm e
theorem below_len : ∀ (n : Nat) (l : List Nat), l.Nodup → (∀ x ∈ l, x < n) → l.length ≤ n
  | 0, [], _, _ => Nat.le_refl _
  | 0, x :: l, _, h => absurd (h x List.mem_cons_self) (by omega)
  | n + 1, l, nd, h => by
    have h1 := below_len n (l.erase n) (nd.erase n) fun x hx => by
      obtain ⟨ne, hx⟩ := (nd.mem_erase_iff).mp hx
      have := h x hx
      omega
    rw [List.length_erase] at h1
    split at h1 <;> omega
theorem lens_le {rs : List Nat} (nd : rs.Pairwise fun a b => lenB a ≠ lenB b) (h : ∀ r ∈ rs, lenB r ≤ 12) : rs.length ≤ 13 := by
  have n2 : (rs.map lenB).Nodup := List.pairwise_map.mpr nd
  have := below_len 13 (rs.map lenB) n2 fun x hx => by
    obtain ⟨r, hr, rfl⟩ := List.mem_map.mp hx
    have := h r hr
    omega
  rw [List.length_map] at this
  exact this
end Q1
set_option Elab.async false
set_option linter.all false
set_option maxRecDepth 100000
set_option maxHeartbeats 4000000
namespace Q1
open PySem L2 LamX
/-- the code that no state keeps, by its name -/
structure Nv (mg : Str → Option Value) : Prop where
  never : ∃ t, mg "NEVER" = some (.int 1 t)
section
variable {P : Program} {w : World} {K : PySem.W.Frag} {mg : Str → Option Value} {base : Heap}
/-! ### neat_rows -/
abbrev sNr : Stmt := top 28
abbrev nNr : List Str := ["codes", "rows", "index", "code", "lot", "other", "others", "found", "width"]
theorem scNr : FnScope nNr ["codes"] (defScope sNr) := ⟨rfl, rfl, rfl, by decide +kernel, rfl, by decide +kernel, by decide +kernel⟩
/-- rows with their lots, as they stand -/
def RowsAt (H : Hp) : List Nat → List V → Prop
  | [], vs => vs = []
  | f :: fs, vs => ∃ (t : Addr) (lot : Int) (r : List V), vs = .ref t :: r ∧ H t = some (.tup [.int (f : Nat), .int lot]) ∧ RowsAt H fs r
/-- neat: longer and longer, no one's last mark in another one -/
structure Neat (fs : List Nat) : Prop where
  up : fs.Pairwise fun f g => lenB f < lenB g
  two : ∀ f ∈ fs, 2 ≤ lenB f ∧ lenB f ≤ 12
  red : ∀ f ∈ fs, ∀ g ∈ fs, f ≠ g → f.testBit (lenB g - 1) = false
/-- rows while they grow -/
structure RowOk (rs : List Nat) : Prop where
  nd : rs.Pairwise fun a b => lenB a ≠ lenB b
  two : ∀ r ∈ rs, 2 ≤ lenB r ∧ lenB r ≤ 12
theorem holdL_snoc (rs : List Nat) (r s : Nat) : holdL (rs ++ [r]) s = (holdL rs s && holdB r s) := by
  unfold holdL
  rw [List.all_append, List.all_cons, List.all_nil, Bool.and_true]
theorem holdL_mem {rs : List Nat} {r s : Nat} (h : holdL rs s = true) (hr : r ∈ rs) : holdB r s = true := List.all_eq_true.mp h r hr
theorem holdL_take {cs : List Nat} {s : Nat} (n : Nat) (h : holdL (cs.take n) s = false) : holdL cs s = false := by
  cases e : holdL cs s with
  | false => rfl
  | true =>
    have : holdL (cs.take n) s = true := List.all_eq_true.mpr fun x hx => List.all_eq_true.mp e x (List.mem_of_mem_take hx)
    rw [this] at h
    cases h
theorem xor_keeps {x f : Nat} (h : lenB f < lenB x) : lenB (x ^^^ f) = lenB x := by
  have hx : x ≠ 0 := fun z => by subst z; simp [lenB] at h
  have e1 : lenB x = x.log2 + 1 := by unfold lenB; rw [if_neg hx]
  have fl : f < 2 ^ x.log2 := Nat.lt_of_lt_of_le (lt_lenB f) (Nat.pow_le_pow_right (by decide) (by omega))
  have t1 : (x ^^^ f).testBit x.log2 = true := by
    rw [Nat.testBit_xor, Nat.testBit_log2 hx, Nat.testBit_lt_two_pow fl]
    rfl
  have le : lenB (x ^^^ f) ≤ lenB x := lenB_lt (by
    refine Nat.xor_lt_two_pow (lt_lenB x) (Nat.lt_of_lt_of_le (lt_lenB f) (Nat.pow_le_pow_right (by decide) (by omega))))
  have ge : x.log2 < lenB (x ^^^ f) := by
    by_cases z : x.log2 < lenB (x ^^^ f)
    · exact z
    · have := Nat.testBit_lt_two_pow (Nat.lt_of_lt_of_le (lt_lenB (x ^^^ f)) (Nat.pow_le_pow_right (by decide) (Nat.le_of_not_lt z)))
      rw [this] at t1
      cases t1
  omega
theorem bit_test (x n : Nat) : (Builtin.bitAnd ((x : Int) / 2 ^ n) 1 != 0) = x.testBit n := by
  have e : (x : Int) / 2 ^ n = ((x / 2 ^ n : Nat) : Int) := by rw [Int.natCast_ediv, Int.natCast_pow]; rfl
  rw [e, show (1 : Int) = ((1 : Nat) : Int) from rfl, and_nat, Nat.and_one_is_mod]
  rw [Nat.testBit_eq_decide_div_mod_eq]
  rcases Nat.mod_two_eq_zero_or_one (x / 2 ^ n) with q | q <;> rw [q] <;> rfl
theorem rowsAt_same {H H' : Hp} (s : Same H H') : ∀ {fs : List Nat} {us : List V}, RowsAt H fs us → RowsAt H' fs us
  | [], _, h => h
  | _ :: _, _, h => by
    obtain ⟨t, lot, r, rfl, ht, h2⟩ := h
    exact ⟨t, lot, r, rfl, s _ _ ht, rowsAt_same s h2⟩
theorem rowsAt_off {H : Hp} {p : Addr} {o : HO} {vs0 : List V} (hp : H p = some (.lst vs0)) : ∀ {fs : List Nat} {us : List V}, RowsAt H fs us → RowsAt (upd H p o) fs us
  | [], _, h => h
  | _ :: _, _, h => by
    obtain ⟨t, lot, r, rfl, ht, h2⟩ := h
    refine ⟨t, lot, r, rfl, ?_, rowsAt_off hp h2⟩
    rw [upd_ne (fun z => by rw [z, hp] at ht; cases ht)]
    exact ht
theorem rowsAt_snoc {H : Hp} {f : Nat} {t : Addr} {lot : Int} (ht : H t = some (.tup [.int (f : Nat), .int lot])) : ∀ {fs : List Nat} {us : List V}, RowsAt H fs us → RowsAt H (fs ++ [f]) (us ++ [.ref t])
  | [], _, h => by
    cases (show _ = [] from h)
    exact ⟨t, lot, [], rfl, ht, rfl⟩
  | _ :: _, _, h => by
    obtain ⟨t2, lot2, r, rfl, ht2, h2⟩ := h
    exact ⟨t2, lot2, _, rfl, ht2, rowsAt_snoc ht h2⟩
theorem rowsAt_get {H : Hp} : ∀ {fs : List Nat} {us : List V} {i : Nat} {u : V}, RowsAt H fs us → us[i]? = some u → ∃ (f : Nat) (t : Addr) (lot : Int), fs[i]? = some f ∧ u = .ref t ∧ H t = some (.tup [.int (f : Nat), .int lot])
  | [], _, _, _, h, e => by
    cases (show _ = [] from h)
    simp at e
  | _ :: _, _, 0, _, h, e => by
    obtain ⟨t2, lot2, r, rfl, ht2, h2⟩ := h
    exact ⟨_, t2, lot2, rfl, (Option.some.inj e).symm, ht2⟩
  | _ :: _, _, i + 1, _, h, e => by
    obtain ⟨t2, lot2, r, rfl, ht2, h2⟩ := h
    exact rowsAt_get (i := i) h2 e
theorem rowsAt_len {H : Hp} : ∀ {fs : List Nat} {us : List V}, RowsAt H fs us → us.length = fs.length
  | [], _, h => by
    cases (show _ = [] from h)
    rfl
  | _ :: _, _, h => by
    obtain ⟨t2, lot2, r, rfl, ht2, h2⟩ := h
    rw [List.length_cons, List.length_cons, rowsAt_len h2]
theorem len_uniq : ∀ {rs : List Nat} {r q : Nat}, (rs.Pairwise fun a b => lenB a ≠ lenB b) → r ∈ rs → q ∈ rs → lenB r = lenB q → r = q
  | x :: rs, r, q, nd, hr, hq, e => by
    rw [List.pairwise_cons] at nd
    rcases List.mem_cons.mp hr with e1 | h1
    · rcases List.mem_cons.mp hq with e2 | h2
      · rw [e1, e2]
      · rw [e1] at e
        exact absurd e (nd.1 q h2)
    · rcases List.mem_cons.mp hq with e2 | h2
      · rw [e2] at e
        exact absurd e.symm (nd.1 r h1)
      · exact len_uniq nd.2 h1 h2 e
theorem top_bit {f : Nat} (h : 2 ≤ lenB f) : f.testBit (lenB f - 1) = true := by
  have hf : f ≠ 0 := fun z => by subst z; simp [lenB] at h
  have e1 : lenB f = f.log2 + 1 := by unfold lenB; rw [if_neg hf]
  rw [e1, Nat.add_sub_cancel]
  exact Nat.testBit_log2 hf
theorem lenB_one {x : Nat} (h : lenB x ≤ 1) : x ≤ 1 := by
  have := lt_lenB x
  have h2 : 2 ^ lenB x ≤ 2 ^ 1 := Nat.pow_le_pow_right (by decide) h
  omega
def spNr : Sp := fun vs H Q _ => ∃ (l : Addr) (cs : List Nat), vs = [.ref l] ∧ H l = some (.lst (cs.map fun (c : Nat) => V.int (c : Nat))) ∧ cs.length ≤ 60 ∧ (∀ c ∈ cs, lenB c ≤ 12) ∧
  ((∀ s, holdL cs s = false) → ∀ H' r us, Same H H' → H r = none → H' r = some (.lst us) → RowsAt H' [1] us → Q (.ref r) H') ∧
  ∀ fs, Neat fs → (∀ s, holdL fs s = holdL cs s) → (∀ f ∈ fs, ∃ c ∈ cs, lenB f ≤ lenB c) → ∀ H' r us, Same H H' → H r = none → H' r = some (.lst us) → RowsAt H' fs us → Q (.ref r) H'
theorem ok_nr (B : Bt mg) (V0 : Nv mg) (N : Dn K mg "neat_rows" sNr ["codes"]) : FnOk P w K mg base CX0 1 N.f N.fd ["codes"] spNr := by
  obtain ⟨tN, hN⟩ := V0.never
  refine N.F.ok scNr (fun vs H Q E h => ?_) (fun cdv A outer s H vs Q E hr h => ?_)
  · obtain ⟨l, cs, rfl, _⟩ := h
    rfl
  · obtain ⟨l, cs, rfl, hl, hn, hc, k1, k2⟩ := h
    have hu := hu_of hr
    refine ⟨_, pss_cons (ps_set (i := 1) scNr.nd rfl (Or.inl rfl) pe_dnewK)
      (pss_cons (ps_for PassesOwn.never rfl (pi_enumA (by rfl) B.enumerate (pa_cons (pv 0) pa_nil)) (pg_tup rfl (pgs_cons (pg_name (i := 2) scNr.nd rfl (Or.inl rfl)) (pgs_cons (pg_name (i := 3) scNr.nd rfl (Or.inl rfl)) pgs_nil)))
        (pss_cons (ps_set (i := 4) scNr.nd rfl (Or.inl rfl) (pe_op op_shl pe_int (pv 2)))
        (pss_cons (ps_while PassesOwn.never (PW.pt (pw_and (pt_cmp (pc_gt (pv 3) (gv (v := .int 1) hN ⟨tN, rfl⟩)) (by rfl)) (pw_and1 (pt_cmp (pc_din hu (pe_bits (pv 3)) (pv 1)) (by rfl)))))
          (pss_cons (ps_asg (pe_dget hu (pv 1) (pe_bits (pv 3)) (fun _ _ => rfl)) (pg_tup rfl (pgs_cons (pg_name (i := 5) scNr.nd rfl (Or.inl rfl)) (pgs_cons (pg_name (i := 6) scNr.nd rfl (Or.inl rfl)) pgs_nil))))
          (pss_cons (ps_aug (i := 3) scNr.nd rfl (Or.inl rfl) (pv 5) iop_xor)
          (pss_one (ps_aug (i := 4) scNr.nd rfl (Or.inl rfl) (pv 6) iop_xor)))))
        (pss_cons (ps_if (pt_cmpR op_eq (pv 3) (gv (v := .int 1) hN ⟨tN, rfl⟩) (by rfl)) (pss_one (ps_ret (pe_lst (pa_cons (pe_tup (pa_cons (pv 3) (pa_cons (pv 4) pa_nil))) pa_nil)))) pss_nil)
        (pss_one (ps_if (pt_truth (pv 3) (fun _ => rfl)) (pss_one (ps_asg (pe_tup (pa_cons (pv 3) (pa_cons (pv 4) pa_nil))) (pg_sub (pv 1) (pe_bits (pv 3)) (set_dict hu)))) pss_nil))))))
      (pss_cons (ps_set (i := 7) scNr.nd rfl (Or.inl rfl) (pe_lst pa_nil))
      (pss_cons (ps_for PassesOwn.never rfl (pi_list (pe_callB (call_sortedDI rfl) (by rfl) B.sorted PyProof.Rows.boot_sorted (pa_cons (pv 1) pa_nil))) (pg_name (i := 8) scNr.nd rfl (Or.inl rfl))
        (pss_cons (ps_asg (pe_dget hu (pv 1) (pv 8) (fun _ _ => rfl)) (pg_tup rfl (pgs_cons (pg_name (i := 3) scNr.nd rfl (Or.inl rfl)) (pgs_cons (pg_name (i := 4) scNr.nd rfl (Or.inl rfl)) pgs_nil))))
        (pss_cons (ps_for PassesOwn.never rfl (pi_list (pv 7)) (pg_tup rfl (pgs_cons (pg_name (i := 5) scNr.nd rfl (Or.inl rfl)) (pgs_cons (pg_name (i := 6) scNr.nd rfl (Or.inl rfl)) pgs_nil)))
          (pss_one (ps_if (pt_truth (pe_op op_and (pe_op op_shr (pv 3) (pe_op op_sub (pe_bits (pv 5)) pe_int)) pe_int) (fun _ => rfl))
            (pss_cons (ps_aug (i := 3) scNr.nd rfl (Or.inl rfl) (pv 5) iop_xor) (pss_one (ps_aug (i := 4) scNr.nd rfl (Or.inl rfl) (pv 6) iop_xor))) pss_nil)))
        (pss_one (ps_expr (pe_bm PySem.F.plainAttrs_list PySem.F.slot_list_append PySem.F.type_list_append mt_append (pv 7) (pa_cons (pe_tup (pa_cons (pv 3) (pa_cons (pv 4) pa_nil))) pa_nil)))))))
      (pss_one (ps_ret (pv 7)))))), ?_⟩
    refine fun pA hpA => ?_
    have s1 : Same H (upd H pA (.dK [])) := Same.new hpA
    have hA1 : upd H pA (.dK []) pA = some (.dK []) := upd_same
    generalize upd H pA (.dK []) = H1 at s1 hA1 ⊢
    refine ⟨_, rfl, l, _, rfl, for_enumA (Hb := H) (.inl (SqL.of hl)) (fun i σ H' => (∃ o2 o3 o4 o5 o6, σ = [some (.ref l), some (.ref pA), o2, o3, o4, o5, o6, none, none]) ∧ Same H H' ∧ ∃ rs kvs, H' pA = some (.dK kvs) ∧ rowKV H' rs kvs ∧ RowOk rs ∧ (∀ r ∈ rs, ∃ c ∈ cs, lenB r ≤ lenB c) ∧ ∀ s, holdL rs s = holdL (cs.take i) s)
      ⟨⟨_, _, _, _, _, rfl⟩, s1, [], [], hA1, rfl, ⟨List.Pairwise.nil, fun r hr => by cases hr⟩, (fun r hr => by cases hr), fun s => rfl⟩ (fun i σ H' _ h => h.2.1) ?_ ?_⟩
    · rintro i T x σ H' hx ⟨⟨o2, o3, o4, o5, o6, rfl⟩, sm', rs, kvs, hA, rk, ro, rc, hh⟩ hT
      obtain ⟨c, hci, rfl⟩ : ∃ c : Nat, cs[i]? = some c ∧ x = .int (c : Nat) := by
        rw [List.getElem?_map] at hx
        cases e : cs[i]? with
        | none => rw [e] at hx; cases hx
        | some z => rw [e] at hx; exact ⟨z, rfl, (Option.some.inj hx).symm⟩
      have hil : i < cs.length := (List.getElem?_eq_some_iff.mp hci).1
      have sT : Same H' (upd H' T (.tup [.int (i : Nat), .int (c : Nat)])) := Same.new hT
      refine ⟨T, _, rfl, SqT.of upd_same, rfl, ?_⟩
      refine ⟨_, _, rfl, _, _, rfl, rfl, ?_⟩
      generalize upd H' T (.tup [.int (i : Nat), .int (c : Nat)]) = H5 at sT ⊢
      have hA5 := sT _ _ hA
      have rk5 := rk.same sT
      have hc12 := hc c (List.mem_of_getElem? hci)
      have et : ∀ s, holdL (cs.take (i + 1)) s = (holdL rs s && holdB c s) := fun s => by
        rw [List.take_add_one, hci]
        show holdL (cs.take i ++ [c]) s = _
        rw [holdL_snoc, ← hh]
      refine ⟨_, rfl, 1, (i : Int), rfl, rfl, ⟨by omega, by omega, by decide⟩, ?_⟩
      show tSeq (tWhile _ _) (tSeq _ _) _ [some (.ref l), some (.ref pA), some (.int (i : Nat)), some (.int (c : Nat)), some (.int (1 * 2 ^ ((i : Nat) : Int).toNat)), o5, o6, none, none] H5
      refine tSeq_two (R := fun σ H2 => H2 = H5 ∧ ∃ (x : Nat) (lot : Int) (o5 o6 : Option V), σ = [some (.ref l), some (.ref pA), some (.int (i : Nat)), some (.int (x : Nat)), some (.int lot), o5, o6, none, none] ∧ lenB x ≤ lenB c ∧ (∀ s, (holdL rs s && holdB x s) = (holdL rs s && holdB c s)) ∧ (x ≤ 1 ∨ valV kvs (Sum.inl ((lenB x : Nat) : Int)) = none ∧ ∀ r ∈ rs, lenB r ≠ lenB x)) (fun D' hD => ?_) ?_
      · refine while_by (fun σ H2 => H2 = H5 ∧ ∃ (x : Nat) (lot : Int) (o5 o6 : Option V), σ = [some (.ref l), some (.ref pA), some (.int (i : Nat)), some (.int (x : Nat)), some (.int lot), o5, o6, none, none] ∧ lenB x ≤ lenB c ∧ ∀ s, (holdL rs s && holdB x s) = (holdL rs s && holdB c s))
          (fun σ _ => match σ[3]? with | some (some (V.int w)) => lenB w.toNat | _ => 0) ⟨rfl, c, _, _, _, rfl, Nat.le_refl _, fun _ => rfl⟩ ?_ ?_
        · rintro σ H2 ⟨rfl, x, lot, o5, o6, rfl, x12, xh⟩
          refine ⟨_, rfl, _, _, rfl, rfl, _, rfl, ?_⟩
          refine ite2 (fun h => ?_) (fun h => ?_)
          · have hx1 : 1 < x := by
              have h : decide ((1 : Int) < (x : Int)) = true := h
              have := of_decide_eq_true h
              omega
            refine ⟨_, rfl, _, rfl, _, rfl, pA, _, rfl, DGet.k (k := Sum.inl ((Builtin.Int.intBits (x : Nat) : Nat) : Int)) hA5, _, rfl, ?_⟩
            rw [lenB_bits]
            rcases rk5.get (lenB x) with ⟨h3, h4⟩ | ⟨r, t, lot2, hr, hrl, hv, ht⟩
            · rw [h3]
              refine iteF ?_
              exact hD _ _ ⟨rfl, x, lot, o5, o6, rfl, x12, xh, .inr ⟨h3, h4⟩⟩
            · rw [hv]
              refine iteT ?_
              refine ⟨_, rfl, _, rfl, _, rfl, pA, .ref t, rfl, ?_, ?_⟩
              · rw [lenB_bits, ← hv]
                exact DGet.k (k := Sum.inl ((lenB x : Nat) : Int)) hA5
              · refine ⟨t, _, rfl, SqT.of ht, rfl, ?_⟩
                refine ⟨_, _, rfl, _, _, rfl, rfl, ?_⟩
                refine ⟨_, rfl, _, rfl, _, _, rfl, rfl, ?_⟩
                refine ⟨_, rfl, _, rfl, _, _, rfl, rfl, ?_⟩
                dsimp only
                rw [xor_nat]
                have hless : lenB (x ^^^ r) < lenB x := xor_less (by omega) hrl.symm
                refine ⟨⟨rfl, x ^^^ r, _, some (.int (r : Nat)), some (.int lot2), rfl, by omega, fun s => ?_⟩, ?_⟩
                · have z := xh s
                  cases e : holdL rs s with
                  | false => rfl
                  | true =>
                    rw [e] at z
                    rw [hold_xor (holdL_mem e hr)]
                    exact z
                · show lenB (((x ^^^ r : Nat) : Int)).toNat < lenB ((x : Int)).toNat
                  rw [Int.toNat_natCast, Int.toNat_natCast]
                  exact hless
          · refine iteF ?_
            refine hD _ _ ⟨rfl, x, lot, o5, o6, rfl, x12, xh, .inl ?_⟩
            have h : ¬ decide ((1 : Int) < (x : Int)) = true := h
            by_cases z : x ≤ 1
            · exact z
            · exact absurd (decide_eq_true (by omega)) h
        · intro σ H2 Q1 Q2 hQ
          rintro ⟨v, e1, i1, j1, e2, e3, b, e4, h⟩
          refine ⟨v, e1, i1, j1, e2, e3, b, e4, ?_⟩
          cases b with
          | false => exact hQ _ _ h
          | true =>
            obtain ⟨v2, f1, i2, f2, v3, f3, a3, o3, f4, g, b2, f5, h⟩ := h
            exact ⟨v2, f1, i2, f2, v3, f3, a3, o3, f4, g, b2, f5, hQ _ _ h⟩
      · rintro σ H2 ⟨rfl, x, lot, o5, o6, rfl, x12, xh, ex⟩
        have s05 := sm'.trans sT
        refine ⟨_, rfl, rfl, _, rfl, ?_⟩
        refine ite2 (fun h => ?_) (fun h => ?_)
        · have x1 : x = 1 := by
            have := of_decide_eq_true h
            injection this with this
            omega
          subst x1
          refine ⟨_, rfl, _, rfl, by show 2 ≤ sizeLine; decide, fun t ht => ⟨by show 1 ≤ sizeLine; decide, fun r hr => ?_⟩⟩
          have s6 := Same.new (H := H2) ht (o := .tup [.int ((1 : Nat) : Int), .int lot])
          have s7 := Same.new hr (o := .lst [.ref t])
          refine k1 (fun s => holdL_take (i + 1) ?_) _ r _ ((s05.trans s6).trans s7) ((s05.trans s6).free hr) upd_same ⟨t, lot, [], rfl, s7 _ _ upd_same, rfl⟩
          rw [et, ← xh, hold_one, Bool.and_false]
        · have hx1 : x ≠ 1 := fun z => by
            subst z
            exact h (decide_eq_true rfl)
          refine ⟨_, rfl, _, rfl, ?_⟩
          refine ite2 (fun h2 => ?_) (fun h2 => ?_)
          · have hx0 : x ≠ 0 := fun z => by
              subst z
              exact absurd h2 (by decide)
            have hx2 : 1 < x := by omega
            obtain ⟨hv, hne⟩ : valV kvs (Sum.inl ((lenB x : Nat) : Int)) = none ∧ ∀ r ∈ rs, lenB r ≠ lenB x := ex.resolve_left (by omega)
            refine ⟨_, rfl, _, rfl, by show 2 ≤ sizeLine; decide, fun t ht => ?_⟩
            have s6 := Same.new (H := H2) ht (o := .tup [.int (x : Nat), .int lot])
            have ht6 : upd H2 t (.tup [.int (x : Nat), .int lot]) t = some (.tup [.int (x : Nat), .int lot]) := upd_same
            generalize upd H2 t (.tup [.int (x : Nat), .int lot]) = H6 at s6 ht6 ⊢
            have hA6 := s6 _ _ hA5
            have rk6 := rk5.same s6
            have rl := rk6.len.1
            have rb := lens_le ro.nd (fun r hr => (ro.two r hr).2)
            refine ⟨_, rfl, _, rfl, _, rfl, pA, _, rfl, DPut.k (k := Sum.inl ((Builtin.Int.intBits (x : Nat) : Nat) : Int)) hA6 (Nat.lt_of_le_of_lt (show kvs.length ≤ 13 by omega) (by decide)), ?_⟩
            rw [lenB_bits, put_new hv]
            refine ⟨⟨_, _, _, _, _, rfl⟩, Same.at (s05.trans s6) hpA, rs ++ [x], _, upd_same, rowKV.off hA6 (rowKV.snoc ht6 rk6), ⟨?_, ?_⟩, ?_, fun s => ?_⟩
            · rw [List.pairwise_append]
              exact ⟨ro.nd, List.pairwise_singleton _ _, fun r hr y hy => by rw [List.mem_singleton.mp hy]; exact hne r hr⟩
            · intro r hr
              rcases List.mem_append.mp hr with hr | hr
              · exact ro.two r hr
              · rw [List.mem_singleton.mp hr]
                refine ⟨?_, Nat.le_trans x12 hc12⟩
                by_cases z : 2 ≤ lenB x
                · exact z
                · have := lenB_one (x := x) (by omega)
                  omega
            · intro r hr
              rcases List.mem_append.mp hr with hr | hr
              · exact rc r hr
              · rw [List.mem_singleton.mp hr]
                exact ⟨c, List.mem_of_getElem? hci, x12⟩
            · rw [holdL_snoc, et, ← xh]
          · have hx0 : x = 0 := by
              by_cases z : x = 0
              · exact z
              · exact absurd (show (((x : Nat) : Int) != 0) = true from bne_iff_ne.mpr (by omega)) h2
            subst hx0
            refine ⟨⟨_, _, _, _, _, rfl⟩, s05, rs, kvs, hA5, rk5, ro, rc, fun s => ?_⟩
            rw [et, ← xh, hold_zero, Bool.and_true]
    rintro σ H2 ⟨⟨o2, o3, o4, o5, o6, rfl⟩, s2, rs, kvs, hA, rk, ro, rc, hh⟩
    rw [List.length_map, List.take_length] at hh
    have rb := lens_le ro.nd (fun r hr => (ro.two r hr).2)
    refine ⟨Nat.zero_le _, fun fA hfA => ?_⟩
    have s3 : Same H2 (upd H2 fA (.lst [])) := Same.new hfA
    have hf3 : upd H2 fA (.lst []) fA = some (.lst []) := upd_same
    generalize upd H2 fA (.lst []) = H3 at s3 hf3 ⊢
    refine ⟨_, rfl, pA, kvs, rs.map (fun r => ((lenB r : Nat) : Int)), rfl, Rd.of (s3 _ _ hA), rk.len.2, by rw [List.length_map]; omega, fun ys p hperm hsort hp => ?_⟩
    obtain ⟨qs, hq, rfl⟩ := perm_map_inv hperm rfl
    have s4 : Same H3 (upd H3 p (.lst ((qs.map fun r => ((lenB r : Nat) : Int)).map V.int))) := Same.new hp
    have hp4 : upd H3 p (.lst ((qs.map fun r => ((lenB r : Nat) : Int)).map V.int)) p = some (.lst ((qs.map fun r => ((lenB r : Nat) : Int)).map V.int)) := upd_same
    have npf : p ≠ fA := fun z => by rw [z, hf3] at hp; cases hp
    generalize upd H3 p (.lst ((qs.map fun r => ((lenB r : Nat) : Int)).map V.int)) = H4 at s4 hp4 ⊢
    have s24 := s3.trans s4
    have hA4 := s24 _ _ hA
    have rk4 := rk.same s24
    have nAf : pA ≠ fA := fun z => by rw [z, hfA] at hA; cases hA
    have qnd : qs.Pairwise fun a b => lenB a ≠ lenB b := hq.symm.pairwise ro.nd (fun h e => h e.symm)
    have qup : qs.Pairwise fun a b => lenB a < lenB b := by
      have h1 : qs.Pairwise fun a b => ((lenB a : Nat) : Int) ≤ ((lenB b : Nat) : Int) := List.pairwise_map.mp hsort
      exact (h1.and qnd).imp fun {a b} z => by
        have := z.1
        have := z.2
        omega
    refine ⟨p, rfl, ⟨_, SqL.of hp4⟩, for_list (K := K) (a := p) (xs := (qs.map fun r => ((lenB r : Nat) : Int)).map V.int) (fun i σ H' => (∃ o2 o3 o4 o5 o6 o8, σ = [some (.ref l), some (.ref pA), o2, o3, o4, o5, o6, some (.ref fA), o8]) ∧ SameS fA H4 H' ∧ ∃ fs us, H' fA = some (.lst us) ∧ RowsAt H' fs us ∧ Neat fs ∧ (∀ s, holdL fs s = holdL (qs.take i) s) ∧ fs.map lenB = (qs.take i).map lenB)
      ⟨⟨_, _, _, _, _, _, rfl⟩, SameS.refl _, [], [], s4 _ _ hf3, rfl, ⟨List.Pairwise.nil, (fun r hr => by cases hr), (fun r hr => by cases hr)⟩, fun s => rfl, rfl⟩ (fun i σ H' _ h => SqL.of (h.2.1 _ _ npf hp4)) ?_ ?_⟩
    · rintro i x σ H' hx ⟨⟨o2, o3, o4, o5, o6, o8, rfl⟩, sS, fs, us, hf, rf, nf, fh, fl⟩
      obtain ⟨q, hqi, rfl⟩ : ∃ q : Nat, qs[i]? = some q ∧ x = .int ((lenB q : Nat) : Int) := by
        rw [List.getElem?_map, List.getElem?_map] at hx
        cases e : qs[i]? with
        | none => rw [e] at hx; cases hx
        | some z => rw [e] at hx; exact ⟨z, rfl, (Option.some.inj hx).symm⟩
      have qm : q ∈ rs := hq.mem_iff.mp (List.mem_of_getElem? hqi)
      obtain ⟨r, t, lot, hr, hrl, hv, ht⟩ : ∃ (r : Nat) (t : Addr) (lot : Int), r ∈ rs ∧ lenB r = lenB q ∧ valV kvs (Sum.inl ((lenB q : Nat) : Int)) = some (.ref t) ∧ H4 t = some (.tup [.int (r : Nat), .int lot]) := by
        rcases rk4.get (lenB q) with ⟨_, h4⟩ | h
        · exact absurd rfl (h4 q qm)
        · exact h
      have erq : r = q := len_uniq ro.nd hr qm hrl
      subst erq
      have ntf : t ≠ fA := fun z => by rw [z, s4 _ _ hf3] at ht; cases ht
      refine ⟨_, rfl, _, rfl, pA, .ref t, rfl, (by rw [← hv]; exact DGet.k (k := Sum.inl ((lenB r : Nat) : Int)) (sS _ _ nAf hA4)), ?_⟩
      refine ⟨t, _, rfl, SqT.of (sS _ _ ntf ht), rfl, ?_⟩
      refine ⟨_, _, rfl, _, _, rfl, rfl, ?_⟩
      have flt : ∀ f ∈ fs, lenB f < lenB r := fun f hfm => by
        have h1 : lenB f ∈ (qs.take i).map lenB := by rw [← fl]; exact List.mem_map_of_mem hfm
        obtain ⟨q2, hq2, e2⟩ := List.mem_map.mp h1
        have h2 : (qs.take (i + 1)).Pairwise fun a b => lenB a < lenB b := qup.sublist (List.take_sublist _ _)
        rw [List.take_add_one, hqi] at h2
        have h3 := (List.pairwise_append.mp h2).2.2 q2 hq2 r List.mem_cons_self
        omega
      have r2 := ro.two r hr
      dsimp only
      refine tSeq_two (R := fun σ H9 => H9 = H' ∧ ∃ (x : Nat) (lot : Int) (o5 o6 : Option V), σ = [some (.ref l), some (.ref pA), o2, some (.int (x : Nat)), some (.int lot), o5, o6, some (.ref fA), some (.int ((lenB r : Nat) : Int))] ∧ lenB x = lenB r ∧ (∀ s, (holdL fs s && holdB x s) = (holdL fs s && holdB r s)) ∧ ∀ f ∈ fs, x.testBit (lenB f - 1) = false) (fun D' hD => ?_) ?_
      · refine ⟨_, rfl, fA, rfl, ⟨_, SqL.of hf⟩, for_list (K := K) (a := fA) (xs := us) (fun j σ H9 => H9 = H' ∧ ∃ (x : Nat) (lot : Int) (o5 o6 : Option V), σ = [some (.ref l), some (.ref pA), o2, some (.int (x : Nat)), some (.int lot), o5, o6, some (.ref fA), some (.int ((lenB r : Nat) : Int))] ∧ lenB x = lenB r ∧ (∀ s, (holdL fs s && holdB x s) = (holdL fs s && holdB r s)) ∧ ∀ f ∈ fs.take j, x.testBit (lenB f - 1) = false)
          ⟨rfl, r, lot, o5, o6, rfl, rfl, fun _ => rfl, fun f hfm => by simp at hfm⟩ (fun j σ H9 _ h => by rw [h.1]; exact SqL.of hf) ?_ ?_⟩
        · rintro j u σ H9 hu2 ⟨rfl, x, lot2, o5, o6, rfl, xl, xh, xb⟩
          obtain ⟨f, tf, lotf, hfj, rfl, htf⟩ := rowsAt_get rf hu2
          have fm : f ∈ fs := List.mem_of_getElem? hfj
          have f2 := nf.two f fm
          have fr := flt f fm
          have etk : fs.take (j + 1) = fs.take j ++ [f] := by rw [List.take_add_one, hfj]; rfl
          refine ⟨tf, _, rfl, SqT.of htf, rfl, ?_⟩
          refine ⟨_, _, rfl, _, _, rfl, rfl, ?_⟩
          have eb : (((Builtin.Int.intBits (f : Nat) : Nat) : Int) - 1).toNat = lenB f - 1 := by rw [lenB_bits]; omega
          refine ⟨_, rfl, _, rfl, _, rfl, _, _, rfl, rfl, _, _, rfl, rfl, (by rw [lenB_bits]; omega), _, _, rfl, rfl, _, rfl, ?_⟩
          rw [eb, bit_test]
          refine ite2 (fun h => ?_) (fun h => ?_)
          · refine ⟨_, rfl, _, rfl, _, _, rfl, rfl, ?_⟩
            refine ⟨_, rfl, _, rfl, _, _, rfl, rfl, ?_⟩
            dsimp only
            rw [xor_nat]
            refine ⟨rfl, x ^^^ f, _, some (.int (f : Nat)), some (.int lotf), rfl, by rw [xor_keeps (by omega), xl], fun s => ?_, fun g hg => ?_⟩
            · have z := xh s
              cases e : holdL fs s with
              | false => rfl
              | true =>
                rw [e] at z
                rw [hold_xor (holdL_mem e fm)]
                exact z
            · rw [Nat.testBit_xor]
              rw [etk] at hg
              by_cases zg : g = f
              · subst zg
                rw [h, top_bit f2.1]
                rfl
              · have hg : g ∈ fs.take j := by
                  rcases List.mem_append.mp hg with hg | hg
                  · exact hg
                  · exact absurd (List.mem_singleton.mp hg) zg
                rw [xb g hg, nf.red f fm g (List.mem_of_mem_take hg) (Ne.symm zg)]
                rfl
          · refine ⟨rfl, x, _, some (.int (f : Nat)), some (.int lotf), rfl, xl, xh, fun g hg => ?_⟩
            rw [etk] at hg
            rcases List.mem_append.mp hg with hg | hg
            · exact xb g hg
            · rw [List.mem_singleton.mp hg]
              cases e : x.testBit (lenB f - 1) with
              | false => rfl
              | true => exact absurd e h
        · rintro σ H9 ⟨rfl, x, lot2, o5, o6, rfl, xl, xh, xb⟩
          rw [rowsAt_len rf, List.take_length] at xb
          exact hD _ _ ⟨rfl, x, lot2, o5, o6, rfl, xl, xh, xb⟩
      · rintro σ H9 ⟨rfl, x, lot2, o5, o6, rfl, xl, xh, xb⟩
        have ful := rowsAt_len rf
        have fln : fs.length ≤ 13 := by
          have := congrArg List.length fl
          rw [List.length_map, List.length_map, List.length_take] at this
          have := hq.length_eq
          omega
        refine ⟨_, rfl, .inl ⟨rfl, _, SqL.of hf⟩, _, rfl, _, rfl, by show 2 ≤ sizeLine; decide, fun t2 ht2 => ?_⟩
        have s9 := Same.new (H := H9) ht2 (o := .tup [.int (x : Nat), .int lot2])
        have ht9 : upd H9 t2 (.tup [.int (x : Nat), .int lot2]) t2 = some (.tup [.int (x : Nat), .int lot2]) := upd_same
        generalize upd H9 t2 (.tup [.int (x : Nat), .int lot2]) = H10 at s9 ht9 ⊢
        have hf10 := s9 _ _ hf
        refine ⟨fA, _, _, rfl, rfl, hf10, Nat.lt_of_le_of_lt (show us.length ≤ 13 by omega) (by decide), ?_⟩
        have etk : qs.take (i + 1) = qs.take i ++ [r] := by rw [List.take_add_one, hqi]; rfl
        refine ⟨⟨_, _, _, _, _, _, rfl⟩, (sS.trans (SameS.of s9)).upd, fs ++ [x], _, upd_same, rowsAt_off hf10 (rowsAt_snoc ht9 (rowsAt_same s9 rf)), ⟨?_, ?_, ?_⟩, fun s => ?_, ?_⟩
        · rw [List.pairwise_append]
          exact ⟨nf.up, List.pairwise_singleton _ _, fun f hfm y hy => by rw [List.mem_singleton.mp hy, xl]; exact flt f hfm⟩
        · intro f hfm
          rcases List.mem_append.mp hfm with hfm | hfm
          · exact nf.two f hfm
          · rw [List.mem_singleton.mp hfm, xl]
            exact r2
        · intro f hfm g hgm ne
          rcases List.mem_append.mp hfm with hfm | hfm
          · rcases List.mem_append.mp hgm with hgm | hgm
            · exact nf.red f hfm g hgm ne
            · rw [List.mem_singleton.mp hgm, xl]
              have := flt f hfm
              exact Nat.testBit_lt_two_pow (Nat.lt_of_lt_of_le (lt_lenB f) (Nat.pow_le_pow_right (by decide) (by omega)))
          · rcases List.mem_append.mp hgm with hgm | hgm
            · rw [List.mem_singleton.mp hfm]
              exact xb g hgm
            · exact absurd ((List.mem_singleton.mp hfm).trans (List.mem_singleton.mp hgm).symm) ne
        · rw [holdL_snoc, etk, holdL_snoc, xh, fh]
        · rw [etk, List.map_append, List.map_append, fl]
          show _ ++ [lenB x] = _ ++ [lenB r]
          rw [xl]
    · rintro σ H' ⟨⟨o2, o3, o4, o5, o6, o8, rfl⟩, sS, fs, us, hf, rf, nf, fh, fl⟩
      rw [List.length_map, List.length_map, List.take_length] at fh
      have eq_ : ∀ s, holdL fs s = holdL cs s := fun s => by
        rw [fh, ← hh]
        unfold holdL
        rw [Bool.eq_iff_iff, List.all_eq_true, List.all_eq_true]
        exact ⟨fun h x hx => h x (hq.mem_iff.mpr hx), fun h x hx => h x (hq.mem_iff.mp hx)⟩
      rw [List.length_map, List.length_map, List.take_length] at fl
      have bd : ∀ f ∈ fs, ∃ c ∈ cs, lenB f ≤ lenB c := fun f hfm => by
        have h1 : lenB f ∈ qs.map lenB := by rw [← fl]; exact List.mem_map_of_mem hfm
        obtain ⟨q2, hq2, e2⟩ := List.mem_map.mp h1
        obtain ⟨c, hcm, hle⟩ := rc q2 (hq.mem_iff.mp hq2)
        exact ⟨c, hcm, by omega⟩
      refine ⟨_, rfl, k2 fs nf eq_ bd H' fA us ?_ (s2.free hfA) hf rf⟩
      intro b o e
      have e4 := s24 _ _ (s2 _ _ e)
      exact sS b o (fun z => by rw [z, s2.free hfA] at e; cases e) e4
end
end Q1
set_option Elab.async false
set_option linter.all false
set_option maxRecDepth 100000
set_option maxHeartbeats 4000000
namespace Q1
open PySem L2 LamX
section
variable {P : Program} {w : World} {K : PySem.W.Frag} {mg : Str → Option Value} {base : Heap}
/-! ### states_ahead -/
abbrev sSa : Stmt := top 32
abbrev nSa : List Str := ["game", "codes", "behind", "found", "code", "_", "place"]
theorem scSa : FnScope nSa ["game", "codes", "behind"] (defScope sSa) := ⟨rfl, rfl, rfl, by decide +kernel, rfl, by decide +kernel, by decide +kernel⟩
/-- a turn's hand -/
def turnH (d : D) : Option Str := match d.items? with
  | some [_, .str h] => some h
  | _ => none
/-- whether a row's last mark is one of theirs -/
def theirs (n : Nat) (hs : List Str) (f : Nat) : Bool := decide (n + 2 ≤ lenB f) && decide (hs[lenB f - 2 - n]? = some ("they" : Str))
/-- what a row asks of the kept marks alone -/
def early (n : Nat) (f : Nat) : Bool := decide (lenB f < n + 2)
def aheadC (n : Nat) (hs : List Str) (fs : List Nat) : List Nat := if fs.any (theirs n hs) = true then [1] else fs.filter (early n)
def intsL (cs : List Nat) : List V := cs.map fun (c : Nat) => V.int (c : Nat)
theorem turn_at : ∀ {ts : List D} {hs : List Str} {j : Nat}, ts.map turnH = hs.map some → j < hs.length → ∃ d x h, ts[j]? = some d ∧ d.items? = some [x, .str h] ∧ hs[j]? = some h := fun {ts hs j} e hj => by
  have e2 := congrArg (fun l => l[j]?) e
  simp only [List.getElem?_map, List.getElem?_eq_getElem hj, Option.map_some] at e2
  cases q : ts[j]? with
  | none => rw [q] at e2; cases e2
  | some d =>
    rw [q] at e2
    have e3 : turnH d = some hs[j] := Option.some.inj e2
    unfold turnH at e3
    split at e3
    · rename_i x h hi
      cases e3
      exact ⟨d, x, _, rfl, hi, List.getElem?_eq_getElem hj⟩
    · cases e3
def spSa : Sp := fun vs H Q _ => ∃ (S : Addr → Prop) (dk dt dn dr : D) (d : D) (v : V) (l1 l2 : Addr) (cs bs : List Nat) (ks ts : List D) (hs : List Str), vs = [v, .ref l1, .ref l2] ∧ Rep S H d v ∧ d.items? = some [dk, dt, dn, dr] ∧ dk.items? = some ks ∧ dt.items? = some ts ∧ ts.map turnH = hs.map some ∧
  H l1 = some (.lst (intsL cs)) ∧ H l2 = some (.lst (intsL bs)) ∧ cs.length + bs.length ≤ 60 ∧ (∀ c ∈ cs ++ bs, lenB c ≤ 12) ∧ (∀ c ∈ cs ++ bs, lenB c < ks.length + hs.length + 2) ∧ ks.length ≤ 100 ∧
  ((∀ s, holdL (cs ++ bs) s = false) → ∀ H' r, Same H H' → H r = none → H' r = some (.lst (intsL [1])) → Q (.ref r) H') ∧
  ∀ fs, Neat fs → (∀ s, holdL fs s = holdL (cs ++ bs) s) → (∀ f ∈ fs, lenB f < ks.length + hs.length + 2) → ∀ H' r, Same H H' → H r = none → H' r = some (.lst (intsL (aheadC ks.length hs fs))) → Q (.ref r) H'
theorem ok_sa (B : Bt mg) (V0 : Nv mg) (N : Dn K mg "states_ahead" sSa ["game", "codes", "behind"]) (NR : Dn K mg "neat_rows" sNr ["codes"]) (NP : Dn K mg "last_place" sLp ["code"]) : FnOk P w K mg base CX0 2 N.f N.fd ["game", "codes", "behind"] spSa := by
  have GR : FnOk P w K mg base CX0 1 NR.f NR.fd ["codes"] spNr := ok_nr B V0 NR
  have GP : FnOk P w K mg base CX0 1 NP.f NP.fd ["code"] spLp := ok_lp NP
  obtain ⟨tN, hN⟩ := V0.never
  refine N.F.ok scSa (fun vs H Q E h => ?_) (fun cdv A outer s H vs Q E hr h => ?_)
  · obtain ⟨S, dk, dt, dn, dr, d, v, l1, l2, cs, bs, ks, ts, hs, rfl, _⟩ := h
    rfl
  · obtain ⟨S, dk, dt, dn, dr, d, v, l1, l2, cs, bs, ks, ts, hs, rfl, hd, hi, hk, ht, hh, h1, h2, hln, h12, hpl, hkn, k1, k2⟩ := h
    refine ⟨_, pss_cons (ps_set (i := 3) scSa.nd rfl (Or.inl rfl) (pe_lst pa_nil))
      (pss_cons (ps_for PassesOwn.never rfl (pi_list (pe_call GR hr (by rfl) NR.g NR.F.kp NR.b .nil pass0 (pa_cons (pe_op op_cat (pv 1) (pv 2)) pa_nil))) (pg_tup rfl (pgs_cons (pg_name (i := 4) scSa.nd rfl (Or.inl rfl)) (pgs_cons (pg_name (i := 5) scSa.nd rfl (Or.inl rfl)) pgs_nil)))
        (pss_cons (ps_set (i := 6) scSa.nd rfl (Or.inl rfl) (pe_op op_sub (pe_call GP hr (by rfl) NP.g NP.F.kp NP.b .nil pass0 (pa_cons (pv 4) pa_nil)) (pe_callB call_len_seq (by rfl) B.len boot_len (pa_cons (pe_ix ix_seqA (pv 0) pe_int (fun _ _ => rfl)) pa_nil))))
        (pss_cons (ps_if (PW.pt (pw_or (pt_cmpR op_eq (pv 4) (gv (v := .int 1) hN ⟨tN, rfl⟩) (by rfl))
            (pw_or1 (PW.pt (pw_and (pt_cmp (pc_ge (pv 6) pe_int) (by rfl)) (pw_and1 (pt_cmpR op_eq (pe_ix ix_seqA (pe_ix ix_seqA (pe_ix ix_seqA (pv 0) pe_int (fun _ _ => rfl)) (pv 6) (fun _ _ => rfl)) pe_int (fun _ _ => rfl)) pe_str (nomark _))))))))
            (pss_one (ps_ret (pe_lst (pa_cons (gv (v := .int 1) hN ⟨tN, rfl⟩) pa_nil)))) pss_nil)
        (pss_one (ps_if (pt_cmp (pc_lt (pv 6) pe_int) (by rfl)) (pss_one (ps_expr (pe_bm PySem.F.plainAttrs_list PySem.F.slot_list_append PySem.F.type_list_append mt_append (pv 3) (pa_cons (pv 4) pa_nil)))) pss_nil)))))
      (pss_one (ps_ret (pv 3)))), ?_⟩
    obtain ⟨a, us0, rfl, hq, rr⟩ := id (hd.seq (K := K) hi)
    obtain ⟨vk, _, rfl, rk, vt, _, rfl, rt, vn, _, rfl, rn, vr, _, rfl, rr4, rfl⟩ := rr
    refine ⟨Nat.zero_le _, fun fA hfA => ?_⟩
    have s1 : Same H (upd H fA (.lst [])) := Same.new hfA
    have hf1 : upd H fA (.lst []) fA = some (.lst []) := upd_same
    generalize upd H fA (.lst []) = H1 at s1 hf1 ⊢
    have lcs : (intsL cs).length + (intsL bs).length = cs.length + bs.length := by unfold intsL; rw [List.length_map, List.length_map]
    refine ⟨_, rfl, _, rfl, l1, l2, _, _, rfl, rfl, s1 _ _ h1, s1 _ _ h2, Nat.le_trans (show (intsL cs).length + (intsL bs).length ≤ 60 by omega) (by decide), fun l3 hl3 => ?_⟩
    have s2 : Same H1 (upd H1 l3 (.lst (intsL cs ++ intsL bs))) := Same.new hl3
    have h3 : upd H1 l3 (.lst (intsL cs ++ intsL bs)) l3 = some (.lst ((cs ++ bs).map fun (c : Nat) => V.int (c : Nat))) := by
      rw [upd_same, List.map_append]
      rfl
    generalize upd H1 l3 (.lst (intsL cs ++ intsL bs)) = H2 at s2 h3 ⊢
    have s02 := s1.trans s2
    refine ⟨l3, cs ++ bs, rfl, h3, by rw [List.length_append]; omega, h12, fun uns H3 r us s3 nr hr2 rf => ?_, fun fs nf fh fb H3 r us s3 nr hr2 rf => ?_⟩
    · have s03 := s02.trans s3
      obtain ⟨ak, uk, evk, hqk, ruk⟩ := (rk.same s03).seq (K := K) hk
      subst evk
      have hq3 : SqL K H3 a [.ref ak, vt, vn, vr] ∨ SqT K H3 a [.ref ak, vt, vn, vr] := hq.elim (fun h => .inl (s03.seq h)) (fun h => .inr (seqT s03 h))
      obtain ⟨t, lot, rest, eus, ht2, er⟩ := rf
      cases (show rest = [] from er)
      subst eus
      refine ⟨r, rfl, ⟨_, SqL.of hr2⟩, for_list (K := K) (a := r) (xs := [.ref t]) (fun i σ H' => i = 0 ∧ σ = [some (.ref a), some (.ref l1), some (.ref l2), some (.ref fA), none, none, none] ∧ H' = H3) ⟨rfl, rfl, rfl⟩ (fun i σ H' _ h => by rw [h.2.2]; exact SqL.of hr2) ?_ ?_⟩
      · rintro i x σ H' hx ⟨rfl, rfl, rfl⟩
        cases hx
        refine ⟨t, _, rfl, SqT.of ht2, rfl, ?_⟩
        refine ⟨_, _, rfl, _, _, rfl, rfl, ?_⟩
        refine ⟨_, rfl, 1, rfl, _, rfl, a, _, 0, .ref ak, rfl, rfl, hq3, atI_nat (j := 0) rfl, ak, uk, rfl, hqk, _, _, rfl, rfl, ?_⟩
        refine ⟨_, rfl, rfl, _, rfl, iteT (iteT ?_)⟩
        refine ⟨by show 1 ≤ sizeLine; decide, fun p hp => ?_⟩
        exact k1 uns _ p (s03.trans (Same.new hp)) (s03.free hp) upd_same
      · rintro σ H' ⟨h, _⟩
        cases h
    · have s03 := s02.trans s3
      have lfs := rowsAt_len rf
      have hf3 := (s2.trans s3) _ _ hf1
      have nrf : r ≠ fA := fun z => by rw [z] at nr; rw [s2 _ _ hf1] at nr; cases nr
      refine ⟨r, rfl, ⟨_, SqL.of hr2⟩, for_list (K := K) (a := r) (xs := us) (fun i σ H' => (∃ o4 o5 o6, σ = [some (.ref a), some (.ref l1), some (.ref l2), some (.ref fA), o4, o5, o6]) ∧ SameS fA H3 H' ∧ H' fA = some (.lst (intsL ((fs.take i).filter (early ks.length)))) ∧ (fs.take i).any (theirs ks.length hs) = false) ⟨⟨_, _, _, rfl⟩, SameS.refl _, hf3, rfl⟩ (fun i σ H' _ h => SqL.of (h.2.1 _ _ nrf hr2)) ?_ ?_⟩
      · rintro i u σ H' hu2 ⟨⟨o4, o5, o6, rfl⟩, sS, hfL, hth⟩
        obtain ⟨f, t, lot, hfi, rfl, ht2⟩ := rowsAt_get rf hu2
        have fm := List.mem_of_getElem? hfi
        have f2 := nf.two f fm
        have fub : lenB f < ks.length + hs.length + 2 := by
          obtain ⟨c, hcm, hle⟩ := fb f fm
          have := hpl c hcm
          omega
        have ntf : t ≠ fA := fun z => by rw [z, hf3] at ht2; cases ht2
        have sH : Same H H' := fun b o e => sS b o (fun z => by rw [z, hfA] at e; cases e) (s03 b o e)
        have hqH : SqL K H' a [vk, vt, vn, vr] ∨ SqT K H' a [vk, vt, vn, vr] := hq.elim (fun h => .inl (sH.seq h)) (fun h => .inr (seqT sH h))
        obtain ⟨ak, uk, evk, hqk, ruk⟩ := (rk.same sH).seq (K := K) hk
        have luk := ruk.length
        have etk : fs.take (i + 1) = fs.take i ++ [f] := by rw [List.take_add_one, hfi]; rfl
        have fln : i < fs.length := (List.getElem?_eq_some_iff.mp hfi).1
        refine ⟨t, _, rfl, SqT.of (sS _ _ ntf ht2), rfl, ?_⟩
        refine ⟨_, _, rfl, _, _, rfl, rfl, ?_⟩
        refine ⟨_, rfl, f, rfl, _, rfl, a, _, 0, vk, rfl, rfl, hqH, atI_nat (j := 0) rfl, ak, uk, by rw [evk], hqk, _, _, rfl, rfl, ?_⟩
        dsimp only
        rw [lenB_bits, luk]
        have fne : decide (V.int ((f : Nat) : Int) = V.int 1) = false := decide_eq_false fun z => by
          injection z with z
          have : f = 1 := by omega
          subst this
          exact absurd f2.1 (by decide)
        refine ⟨_, rfl, rfl, _, rfl, ?_⟩
        rw [fne]
        refine iteF ?_
        refine ⟨_, rfl, _, _, rfl, rfl, _, rfl, ?_⟩
        refine ite2 (fun h => ?_) (fun h => ?_)
        · have hge : ks.length + 2 ≤ lenB f := by
            have h : decide ((0 : Int) ≤ ((lenB f : Nat) : Int) - 2 - ((ks.length : Nat) : Int)) = true := h
            have := of_decide_eq_true h
            omega
          obtain ⟨dj, xj, hj, htj, hij, hhj⟩ := turn_at (ts := ts) (hs := hs) (j := lenB f - 2 - ks.length) hh (by omega)
          obtain ⟨at_, ut, evt, hqt, rut⟩ := (rt.same sH).seq (K := K) ht
          have lut := rut.length
          have htl : lenB f - 2 - ks.length < ts.length := (List.getElem?_eq_some_iff.mp htj).1
          have hjl : lenB f - 2 - ks.length < ut.length := by omega
          obtain ⟨dj2, e2, rj⟩ := rut.get (List.getElem?_eq_getElem hjl)
          rw [htj] at e2
          cases e2
          obtain ⟨bj, uj, evj, hqj, ruj⟩ := rj.seq (K := K) hij
          obtain ⟨w1, _, rfl, _, w2, _, rfl, h2w, rfl⟩ := ruj
          cases (show w2 = .str hj from h2w)
          have epl : ((lenB f : Nat) : Int) - 2 - ((ks.length : Nat) : Int) = ((lenB f - 2 - ks.length : Nat) : Int) := by omega
          refine ⟨_, rfl, a, _, 1, vt, rfl, rfl, hqH, atI_nat (j := 1) rfl, _, rfl, at_, ut, _, ut[lenB f - 2 - ks.length], evt, rfl, hqt, (by rw [epl]; exact atI_nat (List.getElem?_eq_getElem hjl)), bj, _, 1, .str hj, evj, rfl, hqj, atI_nat (j := 1) rfl, rfl, _, rfl, ?_⟩
          have hnt : theirs ks.length hs f = decide (hj = "they") := by
            unfold theirs
            rw [decide_eq_true hge, hhj, Bool.true_and, Bool.eq_iff_iff, decide_eq_true_iff, decide_eq_true_iff]
            exact ⟨fun z => Option.some.inj z, fun z => by rw [z]⟩
          have hne : early ks.length f = false := decide_eq_false (by omega)
          refine ite2 (fun h => ?_) (fun h => ?_)
          · have ht1 : hj = "they" := by
              have := of_decide_eq_true h
              injection this
            refine ⟨by show 1 ≤ sizeLine; decide, fun p hp => ?_⟩
            refine k2 fs nf fh ?_ _ p (sH.trans (Same.new hp)) (sH.free hp) ?_
            · intro f fm
              obtain ⟨c, hcm, hle⟩ := fb f fm
              have := hpl c hcm
              omega
            · unfold aheadC
              rw [upd_same, if_pos (List.any_eq_true.mpr ⟨f, fm, by rw [hnt]; exact decide_eq_true ht1⟩)]
              rfl
          · have ht1 : ¬ hj = "they" := fun z => h (decide_eq_true (by rw [z]))
            refine ⟨_, rfl, _, _, rfl, rfl, _, rfl, ?_⟩
            refine ite2 (fun h2 => ?_) (fun h2 => ?_)
            · have h2 : decide (((lenB f : Nat) : Int) - 2 - ((ks.length : Nat) : Int) < (0 : Int)) = true := h2
              have := of_decide_eq_true h2
              omega
            · refine ⟨⟨_, _, _, rfl⟩, sS, ?_, ?_⟩
              · rw [etk, List.filter_append, List.filter_cons_of_neg (by rw [hne]; decide), List.filter_nil, List.append_nil]
                exact hfL
              · rw [etk, List.any_append, hth, List.any_cons, List.any_nil, hnt, decide_eq_false ht1]
                rfl
        · have hlt : lenB f < ks.length + 2 := by
            have h : ¬ decide ((0 : Int) ≤ ((lenB f : Nat) : Int) - 2 - ((ks.length : Nat) : Int)) = true := h
            by_cases z : lenB f < ks.length + 2
            · exact z
            · exact absurd (decide_eq_true (by omega)) h
          have hnt : theirs ks.length hs f = false := by
            unfold theirs
            rw [decide_eq_false (by omega), Bool.false_and]
          have hne : early ks.length f = true := decide_eq_true hlt
          refine iteF ?_
          refine ⟨_, rfl, _, _, rfl, rfl, _, rfl, ?_⟩
          refine ite2 (fun h2 => ?_) (fun h2 => ?_)
          · refine ⟨_, rfl, .inl ⟨rfl, _, SqL.of hfL⟩, _, rfl, fA, _, _, rfl, rfl, hfL, ?_, ?_⟩
            · have h1 : ((fs.take i).filter (early ks.length)).length ≤ (fs.take i).length := List.length_filter_le _ _
              rw [List.length_take] at h1
              have h2 : fs.length ≤ 13 := lens_le (nf.up.imp fun {a b} z => by omega) (fun f hf => (nf.two f hf).2)
              unfold intsL
              rw [List.length_map]
              exact Nat.lt_of_le_of_lt (show _ ≤ 13 by omega) (by decide)
            · refine ⟨⟨_, _, _, rfl⟩, sS.upd, ?_, ?_⟩
              · rw [upd_same, etk, List.filter_append, List.filter_cons_of_pos hne, List.filter_nil]
                unfold intsL
                rw [List.map_append]
                rfl
              · rw [etk, List.any_append, hth, List.any_cons, List.any_nil, hnt]
                rfl
          · have h2 : ¬ decide (((lenB f : Nat) : Int) - 2 - ((ks.length : Nat) : Int) < (0 : Int)) = true := h2
            exact absurd (decide_eq_true (by omega)) h2
      · rintro σ H' ⟨⟨o4, o5, o6, rfl⟩, sS, hfL, hth⟩
        rw [lfs, List.take_length] at hfL hth
        have sH : Same H H' := fun b o e => sS b o (fun z => by rw [z, hfA] at e; cases e) (s03 b o e)
        refine ⟨_, rfl, k2 fs nf fh ?_ H' fA sH hfA ?_⟩
        · intro f fm
          obtain ⟨c, hcm, hle⟩ := fb f fm
          have := hpl c hcm
          omega
        · unfold aheadC
          rw [if_neg (by rw [hth]; decide)]
          exact hfL
end
end Q1
set_option Elab.async false
set_option linter.all false
set_option maxRecDepth 100000
set_option maxHeartbeats 4000000
namespace Q1
open PySem L2 LamX
/-! ### truths as a number: bit place + 1 -/
def encB : List Bool → Nat
  | [] => 0
  | b :: bs => 2 * (b.toNat + encB bs)
theorem encB_even : ∀ bs : List Bool, encB bs % 2 = 0
  | [] => rfl
  | b :: bs => by
    show 2 * (b.toNat + encB bs) % 2 = 0
    omega
theorem encB_bit : ∀ (bs : List Bool) (i : Nat), (encB bs).testBit (i + 1) = bs.getD i false
  | [], i => by simp [encB]
  | b :: bs, i => by
    have ev := encB_even bs
    show (2 * (b.toNat + encB bs)).testBit (i + 1) = _
    rw [Nat.testBit_add_one, Nat.mul_div_cancel_left _ (by decide)]
    cases i with
    | zero =>
      rw [Nat.testBit_zero]
      cases b
      · show decide ((0 + encB bs) % 2 = 1) = false
        exact decide_eq_false (by omega)
      · show decide ((1 + encB bs) % 2 = 1) = true
        exact decide_eq_true (by omega)
    | succ i =>
      have := encB_bit bs i
      rw [Nat.testBit_add_one] at this ⊢
      have e : (b.toNat + encB bs) / 2 = encB bs / 2 := by
        have : b.toNat ≤ 1 := by cases b <;> decide
        omega
      rw [e, this]
      rfl
theorem encB_lt : ∀ bs : List Bool, encB bs < 2 ^ (bs.length + 1)
  | [] => by decide
  | b :: bs => by
    have h := encB_lt bs
    have ev := encB_even bs
    have : b.toNat ≤ 1 := by cases b <;> decide
    have e1 : 2 ^ ((b :: bs).length + 1) = 2 * 2 ^ (bs.length + 1) := by rw [List.length_cons, Nat.pow_succ]; omega
    have e2 : 2 ^ (bs.length + 1) = 2 * 2 ^ bs.length := by rw [Nat.pow_succ]; omega
    show 2 * (b.toNat + encB bs) < _
    omega
/-- what a code asks of truths: the parity of its marks that are so -/
def parC (c : Nat) : Nat → List Bool → Bool
  | _, [] => false
  | i, b :: r => (c.testBit (i + 1) && b) != parC c (i + 1) r
theorem fold_parC (c : Nat) (f : Nat → Bool) : ∀ (k i : Nat) (row : List Bool) (b : Bool), row.length ≤ k → (∀ j, f (i + j) = row.getD j false) → (List.range' i k).foldl (fun b j => b != (c.testBit (j + 1) && f j)) b = (b != parC c i row)
  | 0, i, row, b, h, _ => by
    cases row with
    | nil => cases b <;> rfl
    | cons _ _ => simp at h
  | k + 1, i, row, b, h, hf => by
    rw [List.range'_succ, List.foldl_cons]
    have f0 := hf 0
    rw [Nat.add_zero] at f0
    rw [f0]
    cases row with
    | nil =>
      rw [fold_parC c f k (i + 1) [] _ (Nat.zero_le _) fun j => by rw [show i + 1 + j = i + (j + 1) by omega, hf]; rfl]
      show ((b != (c.testBit (i + 1) && false)) != false) = (b != false)
      rw [Bool.and_false]
      cases b <;> rfl
    | cons x row =>
      rw [fold_parC c f k (i + 1) row _ (by rw [List.length_cons] at h; omega) fun j => by rw [show i + 1 + j = i + (j + 1) by omega, hf]; rfl]
      show ((b != (c.testBit (i + 1) && x)) != parC c (i + 1) row) = (b != ((c.testBit (i + 1) && x) != parC c (i + 1) row))
      cases b <;> cases (c.testBit (i + 1) && x) <;> cases parC c (i + 1) row <;> rfl
theorem hold_parC (c : Nat) {row : List Bool} (h : row.length ≤ 12) : holdB c (encB row) = (parC c 0 row == (c % 2 == 1)) := by
  unfold holdB par
  have e : ∀ b i, (b != ((c / 2) &&& (encB row / 2)).testBit i) = (b != (c.testBit (i + 1) && (encB row).testBit (i + 1))) := fun b i => by
    rw [Nat.testBit_and, ← Nat.testBit_add_one, ← Nat.testBit_add_one]
  simp only [e]
  rw [List.range_eq_range', fold_parC c (fun j => (encB row).testBit (j + 1)) 12 0 row false h fun j => by rw [Nat.zero_add, encB_bit]]
  cases parC c 0 row <;> rfl
theorem parC_congr {c d : Nat} : ∀ (row : List Bool) (i : Nat), (∀ j, i ≤ j → j < i + row.length → c.testBit (j + 1) = d.testBit (j + 1)) → parC c i row = parC d i row
  | [], _, _ => rfl
  | b :: r, i, h => by
    unfold parC
    rw [h i (Nat.le_refl _) (by rw [List.length_cons]; omega), parC_congr r (i + 1) fun j h1 h2 => h j (by omega) (by rw [List.length_cons]; omega)]
theorem parC_app (c : Nat) : ∀ (row r2 : List Bool) (i : Nat), parC c i (row ++ r2) = (parC c i row != parC c (i + row.length) r2)
  | [], r2, i => by
    show parC c i r2 = (false != parC c (i + 0) r2)
    rw [Nat.add_zero]
    cases parC c i r2 <;> rfl
  | b :: r, r2, i => by
    show ((c.testBit (i + 1) && b) != parC c (i + 1) (r ++ r2)) = (((c.testBit (i + 1) && b) != parC c (i + 1) r) != parC c (i + (r.length + 1)) r2)
    rw [parC_app c r r2 (i + 1), show i + 1 + r.length = i + (r.length + 1) by omega]
    cases (c.testBit (i + 1) && b) <;> cases parC c (i + 1) r <;> cases parC c (i + (r.length + 1)) r2 <;> rfl
theorem parC_none {c : Nat} : ∀ (row : List Bool) (i : Nat), (∀ j, i ≤ j → c.testBit (j + 1) = false) → parC c i row = false
  | [], _, _ => rfl
  | b :: r, i, h => by
    unfold parC
    rw [h i (Nat.le_refl _), parC_none r (i + 1) fun j hj => h j (by omega)]
    rfl
theorem mbM_bit (q i : Nat) : (mbM q).testBit (i + 1) = decide (q = i) := by
  unfold mbM
  rw [show 2 * 2 ^ q = 2 ^ (q + 1) by rw [Nat.pow_succ]; omega, Nat.testBit_two_pow]
  rw [Bool.eq_iff_iff, decide_eq_true_iff, decide_eq_true_iff]
  omega
theorem parC_mb (q : Nat) : ∀ (row : List Bool) (i : Nat), i ≤ q → parC (mbM q) i row = row.getD (q - i) false
  | [], i, h => by simp [parC]
  | b :: r, i, h => by
    unfold parC
    rw [mbM_bit]
    by_cases e : q = i
    · subst e
      rw [decide_eq_true rfl, Nat.sub_self, parC_none r (q + 1) fun j hj => by rw [mbM_bit]; exact decide_eq_false (by omega)]
      cases b <;> rfl
    · rw [decide_eq_false e, parC_mb q r (i + 1) (by omega), show q - i = q - (i + 1) + 1 by omega]
      show (false != r.getD (q - (i + 1)) false) = r.getD (q - (i + 1)) false
      cases r.getD (q - (i + 1)) false <;> rfl
theorem break_mb {q : Nat} {row : List Bool} (h : row.length ≤ 12) : breakB (mbM q) (encB row) = row.getD q false := by
  have h1 := hold_parC (mbM q) h
  rw [hold_break, parC_mb q row 0 (Nat.zero_le _), Nat.sub_zero, show (mbM q % 2 == 1) = false by unfold mbM; rw [show 2 * 2 ^ q % 2 = 0 by omega]; rfl] at h1
  cases e : breakB (mbM q) (encB row) <;> cases e2 : row.getD q false <;> rw [e, e2] at h1 <;> first | rfl | cases h1
theorem and_mb (c p : Nat) : (c &&& mbM p = 0) ↔ c.testBit (p + 1) = false := by
  constructor
  · intro z
    have h := congrArg (fun x => x.testBit (p + 1)) z
    simp only [Nat.testBit_and, mbM_bit, Nat.zero_testBit, decide_true, Bool.and_true] at h
    exact h
  · intro z
    refine Nat.eq_of_testBit_eq fun i => ?_
    rw [Nat.testBit_and, Nat.zero_testBit]
    cases i with
    | zero =>
      have : (mbM p).testBit 0 = false := by
        rw [Nat.testBit_zero]
        refine decide_eq_false ?_
        unfold mbM
        omega
      rw [this, Bool.and_false]
    | succ i =>
      rw [mbM_bit]
      by_cases e : p = i
      · subst e
        rw [z, Bool.false_and]
      · rw [decide_eq_false e, Bool.and_false]
theorem step_break (c : Nat) (a : Nat) : ∀ (bs : List Nat) (p f : Nat), breakB (stepG c p bs f) a = (breakB f a != parC c p (bs.map fun b => breakB b a))
  | [], p, f => by
    show breakB f a = (breakB f a != false)
    cases breakB f a <;> rfl
  | b :: bs, p, f => by
    show breakB (stepG c (p + 1) bs (if c &&& mbM p = 0 then f else f ^^^ b)) a = (breakB f a != ((c.testBit (p + 1) && breakB b a) != parC c (p + 1) (bs.map fun b => breakB b a)))
    rw [step_break c a bs (p + 1)]
    cases e : c.testBit (p + 1)
    · rw [if_pos ((and_mb c p).mpr e)]
      cases breakB f a <;> cases parC c (p + 1) (bs.map fun b => breakB b a) <;> rfl
    · rw [if_neg (fun z => by rw [(and_mb c p).mp z] at e; cases e), break_xor]
      cases breakB f a <;> cases breakB b a <;> cases parC c (p + 1) (bs.map fun b => breakB b a) <;> rfl
theorem break_zero (s : Nat) : breakB 0 s = false := by
  have := hold_zero s
  rw [hold_break] at this
  cases e : breakB 0 s
  · rfl
  · rw [e] at this; cases this
theorem break_one (s : Nat) : breakB 1 s = true := by
  have := hold_one s
  rw [hold_break] at this
  cases e : breakB 1 s
  · rw [e] at this; cases this
  · rfl
/-- a code led over asks of the state just what the code asks of the next one -/
theorem step_hold {c : Nat} {ps : List Nat} {row : List Bool} (h : row.length ≤ 12) (hp : ps.length ≤ 12) : holdB (stepM c (ps.map mbM)) (encB row) = holdB c (encB (ps.map fun p => row.getD p false)) := by
  rw [hold_parC c (by rw [List.length_map]; exact hp), hold_break]
  unfold stepM
  rw [step_break, List.map_map]
  have e : (ps.map ((fun b => breakB b (encB row)) ∘ mbM)) = ps.map fun p => row.getD p false := List.map_congr_left fun p _ => break_mb h
  rw [e]
  rcases Nat.mod_two_eq_zero_or_one c with q | q <;> rw [q]
  · rw [break_zero]
    cases parC c 0 (ps.map fun p => row.getD p false) <;> rfl
  · rw [break_one]
    cases parC c 0 (ps.map fun p => row.getD p false) <;> rfl
/-! ### sums of names as codes -/
theorem sub_filter {α : Type} [DecidableEq α] : ∀ {ms names : List α}, ms.Sublist names → names.Nodup → ms = names.filter fun m => decide (m ∈ ms)
  | _, [], h, _ => by
    cases h
    rfl
  | ms, n :: names, h, nd => by
    rw [List.nodup_cons] at nd
    cases h with
    | cons _ h =>
      have : n ∉ ms := fun z => nd.1 (h.subset z)
      rw [List.filter_cons_of_neg (by simpa using this)]
      exact sub_filter h nd.2
    | @cons_cons ms _ _ h =>
      rw [List.filter_cons_of_pos (by simp)]
      congr 1
      refine (sub_filter h nd.2).trans (List.filter_congr fun x hx => ?_)
      have : x ≠ n := fun z => nd.1 (z ▸ hx)
      rw [Bool.eq_iff_iff, decide_eq_true_iff, decide_eq_true_iff, List.mem_cons]
      exact ⟨.inr, fun h => h.resolve_left this⟩
theorem sum_enc (names : List Str) (p : Str → Bool) : ∀ (rest : List Str) (k : Nat), (∀ j m, rest[j]? = some m → names.idxOf m = k + j) → ((rest.filter p).map fun m => mbM (names.idxOf m)).sum = 2 ^ k * encB (rest.map p)
  | [], k, _ => by simp [encB]
  | m :: rest, k, h => by
    have h0 := h 0 m rfl
    have ih := sum_enc names p rest (k + 1) fun j x hx => by rw [h (j + 1) x hx]; omega
    have e2 : 2 ^ (k + 1) = 2 * 2 ^ k := by rw [Nat.pow_succ]; omega
    rw [e2] at ih
    show _ = 2 ^ k * (2 * ((p m).toNat + encB (rest.map p)))
    have e3 : 2 ^ k * (2 * ((p m).toNat + encB (rest.map p))) = 2 * 2 ^ k * (p m).toNat + 2 * 2 ^ k * encB (rest.map p) := by
      rw [← Nat.mul_assoc, Nat.mul_comm (2 ^ k) 2, Nat.mul_add]
    rw [e3, ← ih]
    cases e : p m
    · rw [List.filter_cons_of_neg (by rw [e]; decide)]
      simp
    · rw [List.filter_cons_of_pos e, List.map_cons, List.sum_cons, h0]
      unfold mbM
      simp
theorem nodup_idx {names : List Str} (nd : names.Nodup) {j : Nat} {m : Str} (h : names[j]? = some m) : names.idxOf m = j := by
  obtain ⟨hl, rfl⟩ := List.getElem?_eq_some_iff.mp h
  exact nd.idxOf_getElem j hl
theorem code_enc {names : List Str} (nd : names.Nodup) (p : Str → Bool) (t : Bool) : codeS names (names.filter p) t = t.toNat + encB (names.map p) := by
  unfold codeS
  rw [sum_enc names p names 0 fun j m h => by rw [Nat.zero_add]; exact nodup_idx nd h, Nat.pow_zero, Nat.one_mul]
  cases t <;> rfl
theorem code_bit (t : Bool) (fl : List Bool) (i : Nat) : (t.toNat + encB fl).testBit (i + 1) = fl.getD i false := by
  rw [← encB_bit, Nat.testBit_add_one, Nat.testBit_add_one]
  have ev := encB_even fl
  have : t.toNat ≤ 1 := by cases t <;> decide
  rw [show (t.toNat + encB fl) / 2 = encB fl / 2 by omega]
theorem code_odd (t : Bool) (fl : List Bool) : ((t.toNat + encB fl) % 2 == 1) = t := by
  have ev := encB_even fl
  cases t
  · rw [show (Bool.toNat false + encB fl) % 2 = 0 by show (0 + encB fl) % 2 = 0; omega]; rfl
  · rw [show (Bool.toNat true + encB fl) % 2 = 1 by show (1 + encB fl) % 2 = 1; omega]; rfl
theorem code_len (t : Bool) (fl : List Bool) : lenB (t.toNat + encB fl) ≤ fl.length + 1 := by
  refine lenB_lt ?_
  have h := encB_lt fl
  have ev := encB_even fl
  have : t.toNat ≤ 1 := by cases t <;> decide
  have e2 : 2 ^ (fl.length + 1) = 2 * 2 ^ fl.length := by rw [Nat.pow_succ]; omega
  omega
theorem tell_filter (c : Nat) (p : Str → Bool) : ∀ (rest : List Str) (k : Nat), (∀ j m, rest[j]? = some m → c.testBit (k + j + 1) = p m) → tellG c k rest = rest.filter p
  | [], _, _ => rfl
  | m :: rest, k, h => by
    have h0 := h 0 m rfl
    have ih := tell_filter c p rest (k + 1) fun j x hx => by rw [show k + 1 + j + 1 = k + (j + 1) + 1 by omega]; exact h (j + 1) x hx
    show (if c &&& mbM k = 0 then tellG c (k + 1) rest else m :: tellG c (k + 1) rest) = _
    rw [ih]
    rw [Nat.add_zero] at h0
    cases e : p m
    · rw [if_pos ((and_mb c k).mpr (h0.trans e)), List.filter_cons_of_neg (by rw [e]; decide)]
    · rw [if_neg (fun z => by rw [(and_mb c k).mp z] at h0; rw [e] at h0; cases h0), List.filter_cons_of_pos e]
theorem tell_code {names : List Str} (nd : names.Nodup) (p : Str → Bool) (t : Bool) : tellM names (codeS names (names.filter p) t) = names.filter p := by
  rw [code_enc nd]
  refine tell_filter _ p names 0 fun j m h => ?_
  rw [Nat.zero_add, code_bit, List.getD_eq_getElem?_getD, List.getElem?_map, h]
  rfl
/-- the parity of a sum's marks, mark by mark -/
theorem fold_marks (c : Nat) (p : Str → Bool) (val : Str → Bool) : ∀ (rest : List Str) (row : List Bool) (k : Nat) (b : Bool), rest.length = row.length → (∀ j m, rest[j]? = some m → c.testBit (k + j + 1) = p m ∧ val m = row.getD j false) → (rest.filter p).foldl (fun b m => b != val m) b = (b != parC c k row)
  | [], row, k, b, e, _ => by
    cases row with
    | nil => cases b <;> rfl
    | cons _ _ => simp at e
  | m :: rest, [], k, b, e, _ => by simp at e
  | m :: rest, x :: row, k, b, e, h => by
    obtain ⟨h1, h2⟩ := h 0 m rfl
    have ih := fun b => fold_marks c p val rest row (k + 1) b (by simpa using e) fun j y hy => by
      rw [show k + 1 + j + 1 = k + (j + 1) + 1 by omega]
      exact h (j + 1) y hy
    have h2 : val m = x := h2
    rw [Nat.add_zero] at h1
    show _ = (b != ((c.testBit (k + 1) && x) != parC c (k + 1) row))
    rw [h1]
    cases e2 : p m
    · rw [List.filter_cons_of_neg (by rw [e2]; decide), ih]
      cases b <;> cases parC c (k + 1) row <;> rfl
    · rw [List.filter_cons_of_pos e2, List.foldl_cons, ih, h2]
      cases b <;> cases x <;> cases parC c (k + 1) row <;> rfl
end Q1
set_option Elab.async false
set_option linter.all false
set_option maxRecDepth 100000
set_option maxHeartbeats 4000000
namespace Q1
open PySem L2 LamX
/-! ### the turns as a game -/
def canM (A : List Bool → Bool) : List Str → List Bool → Bool
  | [], row => A row
  | h :: hs, row => if h = "we" then canM A hs (row ++ [false]) || canM A hs (row ++ [true]) else canM A hs (row ++ [false]) && canM A hs (row ++ [true])
theorem canM_false : ∀ (hs : List Str) (row : List Bool), canM (fun _ => false) hs row = false
  | [], _ => rfl
  | h :: hs, row => by
    unfold canM
    rw [canM_false hs, canM_false hs]
    split <;> rfl
theorem canM_mono {A B : List Bool → Bool} (h : ∀ x, A x = true → B x = true) : ∀ (hs : List Str) (row : List Bool), canM A hs row = true → canM B hs row = true
  | [], row, k => h row k
  | x :: hs, row, k => by
    unfold canM at k ⊢
    split
    · rename_i e
      rw [if_pos e, Bool.or_eq_true] at k
      rw [Bool.or_eq_true]
      exact k.imp (canM_mono h hs _) (canM_mono h hs _)
    · rename_i e
      rw [if_neg e, Bool.and_eq_true] at k
      rw [Bool.and_eq_true]
      exact ⟨canM_mono h hs _ k.1, canM_mono h hs _ k.2⟩
theorem canM_congr {A B : List Bool → Bool} : ∀ (hs : List Str) (row : List Bool), (∀ x : List Bool, x.length = row.length + hs.length → A x = B x) → canM A hs row = canM B hs row
  | [], row, h => h row rfl
  | x :: hs, row, h => by
    unfold canM
    have hl : ∀ (b : Bool) (y : List Bool), y.length = (row ++ [b]).length + hs.length → A y = B y := fun b y e => h y (by rw [e, List.length_append, List.length_cons, List.length_cons, List.length_nil]; omega)
    rw [canM_congr hs (row ++ [false]) (hl false), canM_congr hs (row ++ [true]) (hl true)]
theorem hold_short {f : Nat} {row : List Bool} (b : Bool) (hl : row.length + 1 ≤ 12) (h : lenB f < row.length + 2) : holdB f (encB (row ++ [b])) = holdB f (encB row) := by
  rw [hold_parC f (by rw [List.length_append]; exact hl), hold_parC f (by omega), parC_app]
  have : f.testBit (0 + row.length + 1) = false := Nat.testBit_lt_two_pow (Nat.lt_of_lt_of_le (lt_lenB f) (Nat.pow_le_pow_right (by decide) (by omega)))
  show ((parC f 0 row != ((f.testBit (0 + row.length + 1) && b) != false)) == (f % 2 == 1)) = _
  rw [this]
  cases parC f 0 row <;> rfl
theorem hold_last {f : Nat} {row : List Bool} (b : Bool) (hl : row.length + 1 ≤ 12) (h : lenB f = row.length + 2) : holdB f (encB (row ++ [b])) = (holdB f (encB row) != b) := by
  rw [hold_parC f (by rw [List.length_append]; exact hl), hold_parC f (by omega), parC_app]
  have : f.testBit (0 + row.length + 1) = true := by
    have := top_bit (f := f) (by omega)
    rw [h] at this
    rw [Nat.zero_add]
    exact this
  show ((parC f 0 row != ((f.testBit (0 + row.length + 1) && b) != false)) == (f % 2 == 1)) = _
  rw [this]
  cases parC f 0 row <;> cases b <;> cases (f % 2 == 1) <;> rfl
/-- what a row asks where so many truths are set -/
def rowOk (hs : List Str) (row : List Bool) (f : Nat) : Bool := if lenB f < row.length + 2 then holdB f (encB row) else !decide (hs[lenB f - 2 - row.length]? = some ("they" : Str))
theorem game_rows : ∀ (hs : List Str) (row : List Bool) (fs : List Nat), (∀ h ∈ hs, h = ("we" : Str) ∨ h = "they") → row.length + hs.length ≤ 12 → (fs.Pairwise fun f g => lenB f < lenB g) → (∀ f ∈ fs, 2 ≤ lenB f ∧ lenB f < row.length + hs.length + 2) → (canM (fun x => holdL fs (encB x)) hs row = true ↔ ∀ f ∈ fs, rowOk hs row f = true)
  | [], row, fs, _, hl, up, two => by
    show fs.all (fun c => holdB c (encB row)) = true ↔ _
    rw [List.all_eq_true]
    refine ⟨fun h f hf => ?_, fun h f hf => ?_⟩
    · have h2 := (two f hf).2
      unfold rowOk
      rw [if_pos (by simpa using h2)]
      exact h f hf
    · have h2 := (two f hf).2
      have h1 := h f hf
      unfold rowOk at h1
      rw [if_pos (by simpa using h2)] at h1
      exact h1
  | h :: hs, row, fs, hw, hl, up, two => by
    rw [List.length_cons] at hl two
    have ih : ∀ b, (canM (fun x => holdL fs (encB x)) hs (row ++ [b]) = true ↔ ∀ f ∈ fs, rowOk hs (row ++ [b]) f = true) := fun b => game_rows hs (row ++ [b]) fs (fun x hx => hw x (List.mem_cons_of_mem _ hx)) (by rw [List.length_append, List.length_cons, List.length_nil]; omega) up fun f hf => by
      rw [List.length_append, List.length_cons, List.length_nil]
      have := two f hf
      omega
    have same : ∀ b f, lenB f ≠ row.length + 2 → rowOk hs (row ++ [b]) f = rowOk (h :: hs) row f := fun b f ne => by
      unfold rowOk
      rw [List.length_append, List.length_cons, List.length_nil]
      by_cases z : lenB f < row.length + 2
      · rw [if_pos (by omega), if_pos z, hold_short b (by omega) z]
      · rw [if_neg (by omega), if_neg z, show lenB f - 2 - row.length = (lenB f - 2 - (row.length + (0 + 1))) + 1 by omega]
        rfl
    have last : ∀ b f, lenB f = row.length + 2 → rowOk hs (row ++ [b]) f = (holdB f (encB row) != b) := fun b f e => by
      unfold rowOk
      rw [List.length_append, List.length_cons, List.length_nil, if_pos (by omega), hold_last b (by omega) e]
    have lastH : ∀ f, lenB f = row.length + 2 → rowOk (h :: hs) row f = !decide (h = ("they" : Str)) := fun f e => by
      unfold rowOk
      rw [if_neg (by omega), show lenB f - 2 - row.length = 0 by omega]
      show (!decide (some h = some ("they" : Str))) = _
      by_cases z : h = ("they" : Str)
      · rw [z, decide_eq_true rfl, decide_eq_true rfl]
      · rw [decide_eq_false z, decide_eq_false (fun y => z (Option.some.inj y))]
    have uniq : ∀ f g, f ∈ fs → g ∈ fs → lenB f = row.length + 2 → lenB g = row.length + 2 → f = g := fun f g hf hg e1 e2 => len_uniq (up.imp fun {a b} z => by omega) hf hg (by omega)
    unfold canM
    rcases hw h List.mem_cons_self with e | e
    · have e2 : ¬ h = ("they" : Str) := fun z => by
        rw [e] at z
        exact absurd z (by decide)
      rw [if_pos e, Bool.or_eq_true, ih, ih]
      have fw : ∀ b, (∀ f ∈ fs, rowOk hs (row ++ [b]) f = true) → ∀ f ∈ fs, rowOk (h :: hs) row f = true := fun b k f hf => by
        by_cases z : lenB f = row.length + 2
        · rw [lastH f z, decide_eq_false e2]
          rfl
        · rw [← same b f z]
          exact k f hf
      refine ⟨fun k => k.elim (fw false) (fw true), fun k => ?_⟩
      by_cases ex : ∃ f ∈ fs, lenB f = row.length + 2
      · obtain ⟨f0, hf0, e0⟩ := ex
        have key : ∀ b, (holdB f0 (encB row) != b) = true → ∀ f ∈ fs, rowOk hs (row ++ [b]) f = true := fun b hb f hf => by
          by_cases z : lenB f = row.length + 2
          · have := uniq f f0 hf hf0 z e0
            subst this
            rw [last b f z]
            exact hb
          · rw [same b f z]
            exact k f hf
        cases q : holdB f0 (encB row) with
        | true => exact .inl (key false (by rw [q]; rfl))
        | false => exact .inr (key true (by rw [q]; rfl))
      · exact .inl fun f hf => by
          rw [same false f (fun z => ex ⟨f, hf, z⟩)]
          exact k f hf
    · have e2 : ¬ h = ("we" : Str) := fun z => by
        rw [e] at z
        exact absurd z (by decide)
      rw [if_neg e2, Bool.and_eq_true, ih, ih]
      refine ⟨fun k f hf => ?_, fun k => ?_⟩
      · by_cases z : lenB f = row.length + 2
        · have k1 := k.1 f hf
          have k2 := k.2 f hf
          rw [last _ f z] at k1 k2
          cases q : holdB f (encB row)
          · rw [q] at k1; cases k1
          · rw [q] at k2; cases k2
        · rw [← same false f z]
          exact k.1 f hf
      · have no : ∀ f ∈ fs, lenB f ≠ row.length + 2 := fun f hf z => by
          have := k f hf
          rw [lastH f z, decide_eq_true e] at this
          cases this
        exact ⟨fun f hf => by rw [same false f (no f hf)]; exact k f hf, fun f hf => by rw [same true f (no f hf)]; exact k f hf⟩
/-! ### the states from which so many rounds are kept -/
def nextR (ps : List Nat) (full : List Bool) : List Bool := ps.map fun p => full.getD p false
def Sg (codes : List Nat) (hs : List Str) (ps : List Nat) : Nat → List Bool → Bool
  | 0, _ => true
  | r + 1, row => canM (fun full => holdL codes (encB full) && Sg codes hs ps r (nextR ps full)) hs row
theorem Sg.mono (codes : List Nat) (hs : List Str) (ps : List Nat) : ∀ (r : Nat) (row : List Bool), Sg codes hs ps (r + 1) row = true → Sg codes hs ps r row = true
  | 0, _, _ => rfl
  | r + 1, row, h => by
    refine canM_mono (fun x hx => ?_) hs row h
    rw [Bool.and_eq_true] at hx ⊢
    exact ⟨hx.1, Sg.mono codes hs ps r _ hx.2⟩
/-- the codes of a round: the sums, and what is to hold of the next state -/
def roundC (codes ps lot : List Nat) : List Nat := codes ++ lot.map fun c => stepM c (ps.map mbM)
theorem holdL_app (a b : List Nat) (s : Nat) : holdL (a ++ b) s = (holdL a s && holdL b s) := List.all_append
theorem ahead_hold {n : Nat} {hs : List Str} {fs : List Nat} {row : List Bool} (hn : row.length = n) : holdL (aheadC n hs fs) (encB row) = fs.all fun f => rowOk hs row f := by
  unfold aheadC
  split
  · rename_i h
    obtain ⟨f, hf, e⟩ := List.any_eq_true.mp h
    unfold theirs at e
    rw [Bool.and_eq_true, decide_eq_true_iff, decide_eq_true_iff] at e
    have e1 : holdL [1] (encB row) = false := by
      unfold holdL
      rw [List.all_cons, hold_one]
      rfl
    rw [e1]
    refine (List.all_eq_false.mpr ⟨f, hf, ?_⟩).symm
    unfold rowOk
    rw [hn, if_neg (by omega), decide_eq_true e.2]
    decide
  · rename_i h
    unfold holdL
    rw [List.all_filter]
    have nt : ∀ f ∈ fs, theirs n hs f = false := fun f hf => by
      cases e : theirs n hs f with
      | false => rfl
      | true => exact absurd (List.any_eq_true.mpr ⟨f, hf, e⟩) h
    rw [Bool.eq_iff_iff, List.all_eq_true, List.all_eq_true]
    have each : ∀ f ∈ fs, (!early n f || holdB f (encB row)) = rowOk hs row f := fun f hf => by
      have h1 := nt f hf
      unfold theirs at h1
      unfold early rowOk
      rw [hn]
      by_cases z : lenB f < n + 2
      · rw [decide_eq_true z, if_pos z]
        rfl
      · rw [decide_eq_true (by omega), Bool.true_and] at h1
        rw [decide_eq_false z, if_neg z, h1]
        rfl
    exact ⟨fun k f hf => by rw [← each f hf]; exact k f hf, fun k f hf => by rw [each f hf]; exact k f hf⟩
theorem sg_step {codes ps lot fs : List Nat} {hs : List Str} {n r : Nat} (hw : ∀ h ∈ hs, h = ("we" : Str) ∨ h = "they") (hl : n + hs.length ≤ 12) (hp : ps.length = n) (hlot : ∀ row : List Bool, row.length = n → holdL lot (encB row) = Sg codes hs ps r row)
    (up : fs.Pairwise fun f g => lenB f < lenB g) (two : ∀ f ∈ fs, 2 ≤ lenB f ∧ lenB f < n + hs.length + 2) (eq : ∀ s, holdL fs s = holdL (roundC codes ps lot) s) (row : List Bool) (hn : row.length = n) : holdL (aheadC n hs fs) (encB row) = Sg codes hs ps (r + 1) row := by
  rw [ahead_hold hn]
  have e1 : Sg codes hs ps (r + 1) row = canM (fun x => holdL fs (encB x)) hs row := by
    refine canM_congr hs row fun x hx => ?_
    rw [eq, roundC, holdL_app, ← hlot (nextR ps x) (by unfold nextR; rw [List.length_map, hp])]
    congr 1
    unfold holdL
    rw [List.all_map]
    rw [Bool.eq_iff_iff, List.all_eq_true, List.all_eq_true]
    have each : ∀ c, holdB (stepM c (ps.map mbM)) (encB x) = holdB c (encB (nextR ps x)) := fun c => step_hold (by omega) (by omega)
    exact ⟨fun k c hc => by show holdB (stepM c (ps.map mbM)) (encB x) = true; rw [each]; exact k c hc, fun k c hc => by rw [← each]; exact k c hc⟩
  rw [e1, Bool.eq_iff_iff, List.all_eq_true, game_rows hs row fs hw (by omega) up (by rw [hn]; exact two)]
theorem sg_none {codes ps lot : List Nat} {hs : List Str} {n r : Nat} (hl : n + hs.length ≤ 12) (hp : ps.length = n) (hlot : ∀ row : List Bool, row.length = n → holdL lot (encB row) = Sg codes hs ps r row)
    (un : ∀ s, holdL (roundC codes ps lot) s = false) (row : List Bool) (hn : row.length = n) : Sg codes hs ps (r + 1) row = false := by
  have e1 : Sg codes hs ps (r + 1) row = canM (fun x => false) hs row := by
    refine canM_congr hs row fun x hx => ?_
    rw [← un (encB x), roundC, holdL_app, ← hlot (nextR ps x) (by unfold nextR; rw [List.length_map, hp])]
    congr 1
    unfold holdL
    rw [List.all_map]
    rw [Bool.eq_iff_iff, List.all_eq_true, List.all_eq_true]
    have each : ∀ c, holdB (stepM c (ps.map mbM)) (encB x) = holdB c (encB (nextR ps x)) := fun c => step_hold (by omega) (by omega)
    exact ⟨fun k c hc => by show holdB (stepM c (ps.map mbM)) (encB x) = true; rw [each]; exact k c hc, fun k c hc => by rw [← each]; exact k c hc⟩
  rw [e1, canM_false]
theorem neat_filter {fs : List Nat} (h : Neat fs) (p : Nat → Bool) : Neat (fs.filter p) :=
  ⟨h.up.sublist List.filter_sublist, fun f hf => h.two f (List.mem_filter.mp hf).1, fun f hf g hg => h.red f (List.mem_filter.mp hf).1 g (List.mem_filter.mp hg).1⟩
/-- what is told of a round is neat, or never so -/
theorem ahead_neat {n : Nat} {hs : List Str} {fs : List Nat} (h : Neat fs) : aheadC n hs fs = [1] ∨ Neat (aheadC n hs fs) ∧ ∀ f ∈ aheadC n hs fs, lenB f < n + 2 := by
  unfold aheadC
  split
  · exact .inl rfl
  · refine .inr ⟨neat_filter h _, fun f hf => ?_⟩
    have := (List.mem_filter.mp hf).2
    exact of_decide_eq_true this
/-! ### whatever codes there are, neat ones say the same -/
theorem neat_reduce {fs : List Nat} (h : Neat fs) {N : Nat} (hN : ∀ f ∈ fs, lenB f ≤ N) : ∀ (l : List Nat), (∀ g ∈ l, g ∈ fs) → ∀ c, lenB c ≤ N → ∃ d, lenB d ≤ N ∧ (∀ g ∈ l, d.testBit (lenB g - 1) = false) ∧ ∀ s, holdL fs s = true → holdB d s = holdB c s
  | [], _, c, hc => ⟨c, hc, (fun g hg => by cases hg), fun _ _ => rfl⟩
  | g :: l, hl, c, hc => by
    obtain ⟨d, hd, hb, hh⟩ := neat_reduce h hN l (fun x hx => hl x (List.mem_cons_of_mem _ hx)) c hc
    have gm := hl g List.mem_cons_self
    cases e : d.testBit (lenB g - 1) with
    | false =>
      refine ⟨d, hd, fun x hx => ?_, hh⟩
      rcases List.mem_cons.mp hx with rfl | hx
      · exact e
      · exact hb x hx
    | true =>
      refine ⟨d ^^^ g, ?_, fun x hx => ?_, fun s hs => ?_⟩
      · exact lenB_lt (Nat.xor_lt_two_pow (Nat.lt_of_lt_of_le (lt_lenB d) (Nat.pow_le_pow_right (by decide) hd)) (Nat.lt_of_lt_of_le (lt_lenB g) (Nat.pow_le_pow_right (by decide) (hN g gm))))
      · rw [Nat.testBit_xor]
        by_cases z : x = g
        · subst z
          rw [e, top_bit (h.two x gm).1]
          rfl
        · have hx : x ∈ l := (List.mem_cons.mp hx).resolve_left z
          rw [hb x hx, h.red g gm x (hl x (List.mem_cons_of_mem _ hx)) (Ne.symm z)]
          rfl
      · rw [hold_xor (holdL_mem hs gm)]
        exact hh s hs
theorem neat_exists {N : Nat} (hN : N ≤ 12) : ∀ cs : List Nat, (∀ c ∈ cs, lenB c ≤ N) → (∀ s, holdL cs s = false) ∨ ∃ fs, Neat fs ∧ (∀ f ∈ fs, lenB f ≤ N) ∧ ∀ s, holdL fs s = holdL cs s
  | [], _ => .inr ⟨[], ⟨List.Pairwise.nil, (fun f hf => by cases hf), (fun f hf => by cases hf)⟩, (fun f hf => by cases hf), fun _ => rfl⟩
  | c :: cs, hc => by
    have cons : ∀ s, holdL (c :: cs) s = (holdB c s && holdL cs s) := fun s => List.all_cons
    rcases neat_exists hN cs fun x hx => hc x (List.mem_cons_of_mem _ hx) with un | ⟨fs, nf, lf, ef⟩
    · exact .inl fun s => by rw [cons, un, Bool.and_false]
    · obtain ⟨d, hd, hb, hh⟩ := neat_reduce nf lf fs (fun g hg => hg) c (hc c List.mem_cons_self)
      have e1 : ∀ s, holdL (c :: cs) s = (holdB d s && holdL fs s) := fun s => by
        rw [cons, ← ef]
        cases q : holdL fs s with
        | false => rw [Bool.and_false, Bool.and_false]
        | true => rw [hh s q]
      by_cases d1 : lenB d ≤ 1
      · have := lenB_one d1
        rcases (show d = 0 ∨ d = 1 by omega) with rfl | rfl
        · exact .inr ⟨fs, nf, lf, fun s => by rw [e1, hold_zero, Bool.true_and]⟩
        · exact .inl fun s => by rw [e1, hold_one, Bool.false_and]
      · have d2 : 2 ≤ lenB d := by omega
        have dne : ∀ g ∈ fs, lenB g ≠ lenB d := fun g hg z => by
          have h1 := hb g hg
          rw [z, top_bit d2] at h1
          cases h1
        -- each row without the new one's last mark
        let cl : Nat → Nat := fun g => if g.testBit (lenB d - 1) = true then g ^^^ d else g
        have cl_len : ∀ g ∈ fs, lenB (cl g) = lenB g := fun g hg => by
          show lenB (if g.testBit (lenB d - 1) = true then g ^^^ d else g) = _
          split
          · rename_i e
            refine xor_keeps ?_
            rcases Nat.lt_or_ge (lenB d) (lenB g) with z | z
            · exact z
            · have := dne g hg
              rw [Nat.testBit_lt_two_pow (Nat.lt_of_lt_of_le (lt_lenB g) (Nat.pow_le_pow_right (by decide) (by omega)))] at e
              cases e
          · rfl
        have cl_off : ∀ g, (cl g).testBit (lenB d - 1) = false := fun g => by
          show (if g.testBit (lenB d - 1) = true then g ^^^ d else g).testBit _ = _
          split
          · rename_i e
            rw [Nat.testBit_xor, e, top_bit d2]
            rfl
          · rename_i e
            cases q : g.testBit (lenB d - 1)
            · rfl
            · exact absurd q e
        have cl_bit : ∀ g, ∀ x ∈ fs, (cl g).testBit (lenB x - 1) = g.testBit (lenB x - 1) := fun g x hx => by
          show (if g.testBit (lenB d - 1) = true then g ^^^ d else g).testBit _ = _
          split
          · rw [Nat.testBit_xor, hb x hx]
            cases g.testBit (lenB x - 1) <;> rfl
          · rfl
        have cl_hold : ∀ g s, holdB d s = true → holdB (cl g) s = holdB g s := fun g s hs => by
          show holdB (if g.testBit (lenB d - 1) = true then g ^^^ d else g) s = _
          split
          · exact hold_xor hs
          · rfl
        let lo := (fs.filter fun g => decide (lenB g < lenB d)).map cl
        let hi := (fs.filter fun g => decide (lenB d < lenB g)).map cl
        have mlo : ∀ x, x ∈ lo ↔ ∃ g ∈ fs, lenB g < lenB d ∧ cl g = x := fun x => by
          show x ∈ (fs.filter _).map cl ↔ _
          rw [List.mem_map]
          constructor
          · rintro ⟨g, hg, e⟩
            rw [List.mem_filter, decide_eq_true_iff] at hg
            exact ⟨g, hg.1, hg.2, e⟩
          · rintro ⟨g, hg, hl, e⟩
            exact ⟨g, List.mem_filter.mpr ⟨hg, decide_eq_true hl⟩, e⟩
        have mhi : ∀ x, x ∈ hi ↔ ∃ g ∈ fs, lenB d < lenB g ∧ cl g = x := fun x => by
          show x ∈ (fs.filter _).map cl ↔ _
          rw [List.mem_map]
          constructor
          · rintro ⟨g, hg, e⟩
            rw [List.mem_filter, decide_eq_true_iff] at hg
            exact ⟨g, hg.1, hg.2, e⟩
          · rintro ⟨g, hg, hl, e⟩
            exact ⟨g, List.mem_filter.mpr ⟨hg, decide_eq_true hl⟩, e⟩
        have mem : ∀ x, x ∈ lo ++ d :: hi ↔ x = d ∨ ∃ g ∈ fs, cl g = x := fun x => by
          rw [List.mem_append, List.mem_cons, mlo, mhi]
          constructor
          · rintro (⟨g, hg, _, e⟩ | e | ⟨g, hg, _, e⟩)
            · exact .inr ⟨g, hg, e⟩
            · exact .inl e
            · exact .inr ⟨g, hg, e⟩
          · rintro (e | ⟨g, hg, e⟩)
            · exact .inr (.inl e)
            · rcases Nat.lt_or_gt_of_ne (dne g hg) with z | z
              · exact .inl ⟨g, hg, z, e⟩
              · exact .inr (.inr ⟨g, hg, z, e⟩)
        have upm : ∀ p : Nat → Bool, ((fs.filter p).map cl).Pairwise fun f g => lenB f < lenB g := fun p => by
          rw [List.pairwise_map]
          have h1 : (fs.filter p).Pairwise fun f g => lenB f < lenB g := nf.up.sublist List.filter_sublist
          refine List.Pairwise.imp_of_mem (fun {a b} ha hb2 z => ?_) h1
          rw [cl_len a (List.mem_filter.mp ha).1, cl_len b (List.mem_filter.mp hb2).1]
          exact z
        refine .inr ⟨lo ++ d :: hi, ⟨?_, ?_, ?_⟩, ?_, fun s => ?_⟩
        · rw [List.pairwise_append, List.pairwise_cons]
          refine ⟨upm _, ⟨fun x hx => ?_, upm _⟩, fun x hx y hy => ?_⟩
          · obtain ⟨g, hg, z, rfl⟩ := (mhi x).mp hx
            rw [cl_len g hg]
            exact z
          · obtain ⟨g, hg, z, rfl⟩ := (mlo x).mp hx
            rw [cl_len g hg]
            rcases List.mem_cons.mp hy with rfl | hy
            · exact z
            · obtain ⟨g2, hg2, z2, rfl⟩ := (mhi y).mp hy
              rw [cl_len g2 hg2]
              omega
        · intro x hx
          rcases (mem x).mp hx with rfl | ⟨g, hg, rfl⟩
          · exact ⟨d2, Nat.le_trans hd hN⟩
          · rw [cl_len g hg]
            exact nf.two g hg
        · intro x hx y hy ne
          rcases (mem x).mp hx with rfl | ⟨g, hg, rfl⟩
          · rcases (mem y).mp hy with rfl | ⟨g2, hg2, rfl⟩
            · exact absurd rfl ne
            · rw [cl_len g2 hg2]
              exact hb g2 hg2
          · rcases (mem y).mp hy with rfl | ⟨g2, hg2, rfl⟩
            · exact cl_off g
            · rw [cl_len g2 hg2, cl_bit g g2 hg2]
              exact nf.red g hg g2 hg2 fun z => ne (by rw [z])
        · intro x hx
          rcases (mem x).mp hx with rfl | ⟨g, hg, rfl⟩
          · exact hd
          · rw [cl_len g hg]
            exact lf g hg
        · rw [e1, Bool.eq_iff_iff, Bool.and_eq_true]
          unfold holdL
          rw [List.all_eq_true, List.all_eq_true]
          constructor
          · intro k
            have kd := k d ((mem d).mpr (.inl rfl))
            exact ⟨kd, fun g hg => by rw [← cl_hold g s kd]; exact k _ ((mem _).mpr (.inr ⟨g, hg, rfl⟩))⟩
          · rintro ⟨kd, k⟩ x hx
            rcases (mem x).mp hx with rfl | ⟨g, hg, rfl⟩
            · exact kd
            · rw [cl_hold g s kd]
              exact k g hg
end Q1
set_option Elab.async false
set_option linter.all false
set_option maxRecDepth 100000
set_option maxHeartbeats 4000000
namespace Q1
open PySem L2 LamX
/-! ### what a list of states says, sum by sum -/
section
variable {α : Type} [DecidableEq α]
def rowsM : Nat → List (List Bool)
  | 0 => [[]]
  | n + 1 => (rowsM n).flatMap fun r => [r ++ [false], r ++ [true]]
def oddM (names : List α) (row : List Bool) (ms : List α) : Bool := ms.foldl (fun b m => b != row.getD (names.idxOf m) false) false
def lotsOf (xs : List α) : List (List α) := xs.foldl (fun f x => f ++ f.map (· ++ [x])) [[]]
def everyM (names : List α) (sts : List (List Bool)) : List (List α × Bool) := (lotsOf names).flatMap fun lot => [false, true].flatMap fun t => if sts.all (fun row => oddM names row lot == t) = true then [(lot, t)] else []
def lastsM (names : List α) (every : List (List α × Bool)) : List α := names.filter fun m => every.any fun o => o.1.getLast? == some m
def optAll {β : Type} : List (Option β) → Option (List β)
  | [] => some []
  | none :: _ => none
  | some a :: r => (optAll r).map (a :: ·)
def pickM (lasts : List α) (every : List (List α × Bool)) (last : α) : Option (List α × Bool) := ((every.filter fun o => o.1.getLast? == some last).filter fun o => o.1.filter (· ∈ lasts) == [last]).head?
def neatM (names : List α) (every : List (List α × Bool)) : Option (List (List α × Bool)) := if ([], true) ∈ every then some [([], true)] else optAll ((lastsM names every).map (pickM (lastsM names every) every))
end
theorem mem_rows : ∀ (n : Nat) (row : List Bool), row ∈ rowsM n ↔ row.length = n
  | 0, row => by
    show row ∈ [[]] ↔ _
    rw [List.mem_singleton, List.length_eq_zero_iff]
  | n + 1, row => by
    show row ∈ (rowsM n).flatMap (fun r => [r ++ [false], r ++ [true]]) ↔ _
    rw [List.mem_flatMap]
    constructor
    · rintro ⟨r, hr, h⟩
      have := (mem_rows n r).mp hr
      rcases List.mem_cons.mp h with rfl | h
      · rw [List.length_append, this]; rfl
      · rw [List.mem_singleton.mp h, List.length_append, this]; rfl
    · intro h
      have ne : row ≠ [] := fun z => by rw [z] at h; cases h
      refine ⟨row.dropLast, (mem_rows n _).mpr (by rw [List.length_dropLast]; omega), ?_⟩
      have e := List.dropLast_concat_getLast ne
      cases q : row.getLast ne <;> rw [q] at e <;> simp [e]
/-! ### names are told apart: the same by places -/
section
variable {α β : Type} [DecidableEq α] [DecidableEq β] {f : α → β}
def gM (f : α → β) (o : List α × Bool) : List β × Bool := (o.1.map f, o.2)
theorem idx_map (hf : ∀ a b, f a = f b → a = b) (x : α) : ∀ xs : List α, (xs.map f).idxOf (f x) = xs.idxOf x
  | [] => rfl
  | y :: xs => by
    have ih := idx_map hf x xs
    rw [List.map_cons, List.idxOf_cons, List.idxOf_cons, ih]
    have e : (f y == f x) = (y == x) := by
      rw [Bool.eq_iff_iff, beq_iff_eq, beq_iff_eq]
      exact ⟨hf _ _, fun z => by rw [z]⟩
    rw [e]
theorem odd_map (hf : ∀ a b, f a = f b → a = b) (names : List α) (row : List Bool) (ms : List α) : oddM (names.map f) row (ms.map f) = oddM names row ms := by
  unfold oddM
  rw [List.foldl_map]
  congr 1
  funext b m
  rw [idx_map hf]
theorem lots_map : ∀ (xs : List α) (F : List (List α)), (xs.map f).foldl (fun f x => f ++ f.map (· ++ [x])) (F.map (List.map f)) = (xs.foldl (fun f x => f ++ f.map (· ++ [x])) F).map (List.map f)
  | [], _ => rfl
  | x :: xs, F => by
    rw [List.map_cons, List.foldl_cons, List.foldl_cons, ← lots_map xs, List.map_append, List.map_map, List.map_map]
    congr 2
    refine List.map_congr_left fun l _ => ?_
    show l.map f ++ [f x] = (l ++ [x]).map f
    rw [List.map_append]
    rfl
theorem every_map (hf : ∀ a b, f a = f b → a = b) (names : List α) (sts : List (List Bool)) : everyM (names.map f) sts = (everyM names sts).map (gM f) := by
  unfold everyM
  have e : lotsOf (names.map f) = (lotsOf names).map (List.map f) := lots_map names [[]]
  rw [e, List.flatMap_map, List.map_flatMap]
  congr 1
  funext lot
  rw [List.map_flatMap]
  congr 1
  funext t
  have : (sts.all fun row => oddM (names.map f) row (lot.map f) == t) = sts.all fun row => oddM names row lot == t := by
    congr 1
    funext row
    rw [odd_map hf]
  rw [this]
  split <;> rfl
theorem map_inj (hf : ∀ a b, f a = f b → a = b) : ∀ a b : List α, a.map f = b.map f → a = b
  | [], [], _ => rfl
  | [], _ :: _, h => by cases h
  | _ :: _, [], h => by cases h
  | x :: a, y :: b, h => by
    rw [List.map_cons, List.map_cons] at h
    injection h with h1 h2
    rw [hf _ _ h1, map_inj hf a b h2]
theorem last_map (hf : ∀ a b, f a = f b → a = b) (l : List α) (m : α) : ((l.map f).getLast? == some (f m)) = (l.getLast? == some m) := by
  rw [List.getLast?_map, Bool.eq_iff_iff, beq_iff_eq, beq_iff_eq]
  cases l.getLast? with
  | none => simp
  | some x => simp only [Option.map_some, Option.some.injEq]; exact ⟨hf _ _, fun z => by rw [z]⟩
theorem lasts_map (hf : ∀ a b, f a = f b → a = b) (names : List α) (every : List (List α × Bool)) : lastsM (names.map f) (every.map (gM f)) = (lastsM names every).map f := by
  unfold lastsM
  rw [List.filter_map]
  congr 1
  refine List.filter_congr fun m _ => ?_
  show ((every.map (gM f)).any fun o => o.1.getLast? == some (f m)) = _
  rw [List.any_map]
  congr 1
  funext o
  exact last_map hf o.1 m
theorem mem_map_inj (hf : ∀ a b, f a = f b → a = b) {x : α} {l : List α} : f x ∈ l.map f ↔ x ∈ l := by
  rw [List.mem_map]
  exact ⟨fun ⟨y, hy, e⟩ => hf _ _ e ▸ hy, fun h => ⟨x, h, rfl⟩⟩
theorem pick_map (hf : ∀ a b, f a = f b → a = b) (lasts : List α) (every : List (List α × Bool)) (last : α) : pickM (lasts.map f) (every.map (gM f)) (f last) = (pickM lasts every last).map (gM f) := by
  unfold pickM
  rw [List.filter_map, List.filter_map, List.head?_map]
  congr 2
  have e1 : ((fun o : List β × Bool => o.1.getLast? == some (f last)) ∘ gM f) = fun o : List α × Bool => o.1.getLast? == some last := by
    funext o
    exact last_map hf o.1 last
  rw [e1]
  refine List.filter_congr fun o _ => ?_
  show ((o.1.map f).filter (fun x => decide (x ∈ lasts.map f)) == [f last]) = _
  rw [List.filter_map]
  have e2 : ((fun x => decide (x ∈ lasts.map f)) ∘ f) = fun x => decide (x ∈ lasts) := by
    funext x
    show decide (f x ∈ lasts.map f) = _
    rw [Bool.eq_iff_iff, decide_eq_true_iff, decide_eq_true_iff, mem_map_inj hf]
  rw [e2, Bool.eq_iff_iff, beq_iff_eq, beq_iff_eq]
  exact ⟨fun z => map_inj hf _ [last] z, fun z => by rw [z]; rfl⟩
theorem optAll_map {γ δ : Type} (g : γ → δ) : ∀ l : List (Option γ), optAll (l.map (Option.map g)) = (optAll l).map (List.map g)
  | [] => rfl
  | none :: _ => rfl
  | some a :: r => by
    show (optAll (r.map (Option.map g))).map (g a :: ·) = ((optAll r).map (a :: ·)).map (List.map g)
    rw [optAll_map g r]
    cases optAll r <;> rfl
theorem neat_map (hf : ∀ a b, f a = f b → a = b) (names : List α) (every : List (List α × Bool)) : neatM (names.map f) (every.map (gM f)) = (neatM names every).map (List.map (gM f)) := by
  unfold neatM
  have e1 : (([], true) ∈ every.map (gM f)) ↔ ([], true) ∈ every := by
    rw [List.mem_map]
    constructor
    · rintro ⟨⟨l, t⟩, h, e⟩
      unfold gM at e
      injection e with e1 e2
      have : l = [] := List.map_eq_nil_iff.mp e1
      subst this
      cases e2
      exact h
    · intro h
      exact ⟨_, h, rfl⟩
  by_cases z : ([], true) ∈ every
  · rw [if_pos z, if_pos (e1.mpr z)]
    rfl
  · rw [if_neg z, if_neg (fun y => z (e1.mp y)), lasts_map hf, List.map_map, ← optAll_map, List.map_map]
    congr 1
    exact List.map_congr_left fun m _ => pick_map hf _ _ m
end
/-! ### all neat lots of few marks, gone through -/
def allLots : Nat → List (List Nat)
  | 0 => [[]]
  | k + 1 => allLots k ++ (allLots k).flatMap fun L => ((List.range' (2 ^ (k + 1)) (2 ^ (k + 1))).filter fun c => L.all fun g => !c.testBit (lenB g - 1)).map fun c => L ++ [c]
theorem mem_lots : ∀ (n : Nat) (L : List Nat), Neat L → (∀ f ∈ L, lenB f < n + 2) → L ∈ allLots n
  | 0, L, nf, h => by
    cases L with
    | nil => exact List.mem_singleton.mpr rfl
    | cons f L =>
      have h1 := nf.two f List.mem_cons_self
      have h2 := h f List.mem_cons_self
      omega
  | n + 1, L, nf, h => by
    show L ∈ allLots n ++ (allLots n).flatMap _
    rw [List.mem_append]
    by_cases all : ∀ f ∈ L, lenB f < n + 2
    · exact .inl (mem_lots n L nf all)
    · refine .inr ?_
      have ne : L ≠ [] := fun z => all (by rw [z]; intro f hf; cases hf)
      have e := (List.dropLast_concat_getLast ne).symm
      have up := nf.up
      rw [e, List.pairwise_append] at up
      have lt : ∀ f ∈ L.dropLast, lenB f < lenB (L.getLast ne) := fun f hf => up.2.2 f hf _ (List.mem_singleton.mpr rfl)
      have hl := h _ (List.getLast_mem ne)
      have ge : n + 2 ≤ lenB (L.getLast ne) := by
        by_cases z : n + 2 ≤ lenB (L.getLast ne)
        · exact z
        · refine absurd (fun f hf => ?_) all
          rw [e] at hf
          rcases List.mem_append.mp hf with hf | hf
          · have := lt f hf
            omega
          · rw [List.mem_singleton.mp hf]
            omega
      have sub : ∀ f ∈ L.dropLast, f ∈ L := fun f hf => List.dropLast_subset L hf
      have nd : Neat L.dropLast := ⟨nf.up.sublist (List.dropLast_sublist L), fun f hf => nf.two f (sub f hf), fun f hf g hg => nf.red f (sub f hf) g (sub g hg)⟩
      have hd := mem_lots n L.dropLast nd fun f hf => by
        have := lt f hf
        omega
      rw [List.mem_flatMap]
      refine ⟨L.dropLast, hd, List.mem_map.mpr ⟨L.getLast ne, List.mem_filter.mpr ⟨?_, ?_⟩, e.symm⟩⟩
      · have e1 : lenB (L.getLast ne) = n + 2 := by omega
        have h1 := lt_lenB (L.getLast ne)
        have h2 : L.getLast ne ≠ 0 := fun z => by rw [z] at e1; simp [lenB] at e1
        have h3 : 2 ^ (n + 1) ≤ L.getLast ne := by
          have : (L.getLast ne).log2 = n + 1 := by
            unfold lenB at e1
            rw [if_neg h2] at e1
            omega
          rw [← this]
          exact Nat.log2_self_le h2
        rw [e1, Nat.pow_succ] at h1
        rw [List.mem_range'_1]
        omega
      · rw [List.all_eq_true]
        intro g hg
        rw [nf.red _ (List.getLast_mem ne) g (sub g hg) (fun z => by have := lt g hg; rw [z] at this; omega)]
        rfl
def toldI (n c : Nat) : List (Fin n) × Bool := ((List.finRange n).filter fun i => c.testBit (i.val + 1), c % 2 == 1)
def lotSts (n : Nat) (L : List Nat) : List (List Bool) := (rowsM n).filter fun row => L.all fun c => parC c 0 row == (c % 2 == 1)
def lotFine (n : Nat) (L : List Nat) : Bool := decide ((lotSts n L).length * 2 ^ L.length = 2 ^ n) && decide (neatM (List.finRange n) (everyM (List.finRange n) (lotSts n L)) = some (L.map (toldI n)))
theorem fine0 : (allLots 0).all (lotFine 0) = true := by decide +kernel
theorem fine1 : (allLots 1).all (lotFine 1) = true := by decide +kernel
theorem fine2 : (allLots 2).all (lotFine 2) = true := by decide +kernel
theorem fine3 : (allLots 3).all (lotFine 3) = true := by decide +kernel
theorem fine4 : (allLots 4).all (lotFine 4) = true := by decide +kernel
theorem fineN {n : Nat} (h : n ≤ 4) : (allLots n).all (lotFine n) = true := by
  match n, h with
  | 0, _ => exact fine0
  | 1, _ => exact fine1
  | 2, _ => exact fine2
  | 3, _ => exact fine3
  | 4, _ => exact fine4
end Q1
set_option Elab.async false
set_option linter.all false
set_option maxRecDepth 100000
set_option maxHeartbeats 4000000
namespace Q1
open PySem L2 LamX
/-- a game of sums, as numbers -/
structure Gd (codes : List Nat) (hs : List Str) (ps : List Nat) (n : Nat) : Prop where
  n4 : n ≤ 4
  m4 : hs.length ≤ 4
  hw : ∀ h ∈ hs, h = ("we" : Str) ∨ h = "they"
  pl : ps.length = n
  pb : ∀ p ∈ ps, p < n + hs.length
  cb : ∀ c ∈ codes, lenB c < n + hs.length + 2
section
variable {codes : List Nat} {hs : List Str} {ps : List Nat} {n : Nat}
/-- a neat lot that says just what the states of a round are -/
structure LotAt (codes : List Nat) (hs : List Str) (ps : List Nat) (n r : Nat) (L : List Nat) : Prop where
  neat : Neat L
  len : ∀ f ∈ L, lenB f < n + 2
  eq : ∀ row : List Bool, row.length = n → holdL L (encB row) = Sg codes hs ps r row
def Stat (codes : List Nat) (hs : List Str) (ps : List Nat) (n j : Nat) : Prop := ∀ row : List Bool, row.length = n → Sg codes hs ps (j + 1) row = Sg codes hs ps j row
def St (codes : List Nat) (hs : List Str) (ps : List Nat) (n r : Nat) : List (List Bool) := (rowsM n).filter (Sg codes hs ps r)
theorem stepG_lt (c k : Nat) : ∀ (bs : List Nat) (p f : Nat), f < 2 ^ k → (∀ b ∈ bs, b < 2 ^ k) → stepG c p bs f < 2 ^ k
  | [], p, f, h, _ => h
  | b :: bs, p, f, h, hb => by
    refine stepG_lt c k bs (p + 1) _ ?_ fun x hx => hb x (List.mem_cons_of_mem _ hx)
    split
    · exact h
    · exact Nat.xor_lt_two_pow h (hb b List.mem_cons_self)
theorem step_len (c : Nat) {ps : List Nat} {M : Nat} (h : ∀ p ∈ ps, p < M) : lenB (stepM c (ps.map mbM)) ≤ M + 1 := by
  refine lenB_lt (stepG_lt c (M + 1) _ 0 _ ?_ fun b hb => ?_)
  · have h1 : 2 ^ (M + 1) = 2 * 2 ^ M := by rw [Nat.pow_succ]; omega
    have h2 : 0 < 2 ^ M := Nat.pow_pos (by decide)
    omega
  · obtain ⟨p, hp, rfl⟩ := List.mem_map.mp hb
    unfold mbM
    have h1 : 2 * 2 ^ p = 2 ^ (p + 1) := by rw [Nat.pow_succ]; omega
    rw [h1]
    exact Nat.pow_lt_pow_right (by decide) (by have := h p hp; omega)
theorem round_len (G : Gd codes hs ps n) (lot : List Nat) : ∀ c ∈ roundC codes ps lot, lenB c < n + hs.length + 2 := fun c hc => by
  unfold roundC at hc
  rcases List.mem_append.mp hc with hc | hc
  · exact G.cb c hc
  · obtain ⟨d, _, rfl⟩ := List.mem_map.mp hc
    have := step_len d G.pb
    omega
theorem lot_zero : LotAt codes hs ps n 0 [] := ⟨⟨List.Pairwise.nil, (fun f hf => by cases hf), (fun f hf => by cases hf)⟩, (fun f hf => by cases hf), fun _ _ => rfl⟩
/-- from a round's lot, a neat one of what is to hold: the next round's -/
theorem lot_next (G : Gd codes hs ps n) {r : Nat} {lot fs : List Nat} (hlot : LotAt codes hs ps n r lot) (nf : Neat fs) (fb : ∀ f ∈ fs, lenB f < n + hs.length + 2) (eq : ∀ s, holdL fs s = holdL (roundC codes ps lot) s) :
    (aheadC n hs fs = [1] ∧ ∀ row : List Bool, row.length = n → Sg codes hs ps (r + 1) row = false) ∨ LotAt codes hs ps n (r + 1) (aheadC n hs fs) := by
  have h4 := G.n4
  have h5 := G.m4
  have st := fun row hn => sg_step (codes := codes) (ps := ps) (lot := lot) (fs := fs) (hs := hs) (n := n) (r := r) G.hw (by omega) G.pl hlot.eq nf.up (fun f hf => ⟨(nf.two f hf).1, fb f hf⟩) eq row hn
  rcases ahead_neat (n := n) (hs := hs) nf with e | ⟨a, b⟩
  · refine .inl ⟨e, fun row hn => ?_⟩
    rw [← st row hn, e]
    unfold holdL
    rw [List.all_cons, hold_one]
    rfl
  · exact .inr ⟨a, b, st⟩
theorem lot_exists (G : Gd codes hs ps n) : ∀ r, (∀ row : List Bool, row.length = n → Sg codes hs ps r row = false) ∨ ∃ L, LotAt codes hs ps n r L
  | 0 => .inr ⟨[], lot_zero⟩
  | r + 1 => by
    have h4 := G.n4
    have h5 := G.m4
    rcases lot_exists G r with em | ⟨L, hL⟩
    · refine .inl fun row hn => ?_
      cases e : Sg codes hs ps (r + 1) row with
      | false => rfl
      | true =>
        have := Sg.mono codes hs ps r row e
        rw [em row hn] at this
        cases this
    · rcases neat_exists (N := n + hs.length + 1) (by omega) (roundC codes ps L) (fun c hc => by have := round_len G L c hc; omega) with un | ⟨fs, nf, lf, ef⟩
      · exact .inl fun row hn => sg_none (n := n) (by omega) G.pl hL.eq un row hn
      · rcases lot_next G hL nf (fun f hf => by have := lf f hf; omega) ef with ⟨_, e⟩ | h
        · exact .inl e
        · exact .inr ⟨_, h⟩
theorem lot_fine (G : Gd codes hs ps n) {r : Nat} {L : List Nat} (h : LotAt codes hs ps n r L) : (St codes hs ps n r).length * 2 ^ L.length = 2 ^ n ∧ neatM (List.finRange n) (everyM (List.finRange n) (St codes hs ps n r)) = some (L.map (toldI n)) := by
  have h4 := G.n4
  have e : St codes hs ps n r = lotSts n L := List.filter_congr fun row hr => by
    have hn := (mem_rows n row).mp hr
    rw [← h.eq row hn]
    unfold holdL
    have each : ∀ c, holdB c (encB row) = (parC c 0 row == (c % 2 == 1)) := fun c => hold_parC c (by omega)
    simp only [each]
  have := List.all_eq_true.mp (fineN G.n4) L (mem_lots n L h.neat h.len)
  unfold lotFine at this
  rw [Bool.and_eq_true, decide_eq_true_iff, decide_eq_true_iff] at this
  rw [e]
  exact this
theorem told_inj {c d : Nat} (hc : lenB c < n + 2) (hd : lenB d < n + 2) (h : toldI n c = toldI n d) : c = d := by
  unfold toldI at h
  injection h with h1 h2
  refine Nat.eq_of_testBit_eq fun i => ?_
  cases i with
  | zero =>
    rw [Nat.testBit_zero, Nat.testBit_zero]
    rcases Nat.mod_two_eq_zero_or_one c with p | p <;> rcases Nat.mod_two_eq_zero_or_one d with q | q <;> rw [p, q] at h2 ⊢ <;> first | rfl | cases h2
  | succ i =>
    by_cases z : i < n
    · have h3 : (⟨i, z⟩ : Fin n) ∈ (List.finRange n).filter (fun j => c.testBit (j.val + 1)) ↔ (⟨i, z⟩ : Fin n) ∈ (List.finRange n).filter (fun j => d.testBit (j.val + 1)) := by rw [h1]
      rw [List.mem_filter, List.mem_filter] at h3
      have h4 : (c.testBit (i + 1) = true) ↔ (d.testBit (i + 1) = true) := ⟨fun k => (h3.mp ⟨List.mem_finRange _, k⟩).2, fun k => (h3.mpr ⟨List.mem_finRange _, k⟩).2⟩
      rw [Bool.eq_iff_iff]
      exact h4
    · rw [Nat.testBit_lt_two_pow (Nat.lt_of_lt_of_le (lt_lenB c) (Nat.pow_le_pow_right (by decide) (by omega))), Nat.testBit_lt_two_pow (Nat.lt_of_lt_of_le (lt_lenB d) (Nat.pow_le_pow_right (by decide) (by omega)))]
theorem tolds_inj : ∀ {a b : List Nat}, (∀ c ∈ a, lenB c < n + 2) → (∀ c ∈ b, lenB c < n + 2) → a.map (toldI n) = b.map (toldI n) → a = b
  | [], [], _, _, _ => rfl
  | [], _ :: _, _, _, h => by cases h
  | _ :: _, [], _, _, h => by cases h
  | x :: a, y :: b, ha, hb, h => by
    rw [List.map_cons, List.map_cons] at h
    injection h with h1 h2
    rw [told_inj (ha x List.mem_cons_self) (hb y List.mem_cons_self) h1, tolds_inj (fun c hc => ha c (List.mem_cons_of_mem _ hc)) (fun c hc => hb c (List.mem_cons_of_mem _ hc)) h2]
theorem st_eq {r q : Nat} (h : ∀ row : List Bool, row.length = n → Sg codes hs ps r row = Sg codes hs ps q row) : St codes hs ps n r = St codes hs ps n q := List.filter_congr fun row hr => h row ((mem_rows n row).mp hr)
theorem eq_st {r q : Nat} (h : St codes hs ps n r = St codes hs ps n q) : ∀ row : List Bool, row.length = n → Sg codes hs ps r row = Sg codes hs ps q row := fun row hn => by
  have h1 : row ∈ St codes hs ps n r ↔ row ∈ St codes hs ps n q := by rw [h]
  unfold St at h1
  rw [List.mem_filter, List.mem_filter] at h1
  have hm := (mem_rows n row).mpr hn
  rw [Bool.eq_iff_iff]
  exact ⟨fun k => (h1.mp ⟨hm, k⟩).2, fun k => (h1.mpr ⟨hm, k⟩).2⟩
theorem lot_uniq (G : Gd codes hs ps n) {r q : Nat} {L L2 : List Nat} (h : LotAt codes hs ps n r L) (h2 : LotAt codes hs ps n q L2) (e : ∀ row : List Bool, row.length = n → Sg codes hs ps r row = Sg codes hs ps q row) : L = L2 := by
  have a := (lot_fine G h).2
  have b := (lot_fine G h2).2
  rw [st_eq e, b] at a
  exact (tolds_inj h2.len h.len (Option.some.inj a)).symm
theorem stat_next (G : Gd codes hs ps n) {j : Nat} (h : Stat codes hs ps n j) : Stat codes hs ps n (j + 1) := fun row hn => by
  refine canM_congr hs row fun x hx => ?_
  rw [h (nextR ps x) (by unfold nextR; rw [List.length_map, G.pl])]
theorem stat_all (G : Gd codes hs ps n) {j : Nat} (h : Stat codes hs ps n j) : ∀ k, Stat codes hs ps n (j + k) ∧ ∀ row : List Bool, row.length = n → Sg codes hs ps (j + k) row = Sg codes hs ps j row
  | 0 => ⟨h, fun _ _ => rfl⟩
  | k + 1 => by
    obtain ⟨a, b⟩ := stat_all G h k
    exact ⟨stat_next G a, fun row hn => by rw [← Nat.add_assoc, a row hn, b row hn]⟩
theorem stat_ge (G : Gd codes hs ps n) {j i : Nat} (h : Stat codes hs ps n j) (hi : j ≤ i) : ∀ row : List Bool, row.length = n → Sg codes hs ps i row = Sg codes hs ps j row := by
  have := (stat_all G h (i - j)).2
  rw [show j + (i - j) = i by omega] at this
  exact this
theorem filter_len {α : Type} {p q : α → Bool} : ∀ {l : List α}, (∀ x ∈ l, p x = true → q x = true) → (l.filter p).length ≤ (l.filter q).length
  | [], _ => Nat.le_refl _
  | x :: l, h => by
    have ih := filter_len (l := l) fun y hy => h y (List.mem_cons_of_mem _ hy)
    have h1 := h x List.mem_cons_self
    cases e : p x
    · cases e2 : q x
      · rw [List.filter_cons_of_neg (by rw [e]; decide), List.filter_cons_of_neg (by rw [e2]; decide)]
        exact ih
      · rw [List.filter_cons_of_neg (by rw [e]; decide), List.filter_cons_of_pos e2, List.length_cons]
        omega
    · rw [List.filter_cons_of_pos e, List.filter_cons_of_pos (h1 e), List.length_cons, List.length_cons]
      omega
theorem filter_less {α : Type} {p q : α → Bool} : ∀ {l : List α}, (∀ x ∈ l, p x = true → q x = true) → (∃ x ∈ l, p x ≠ q x) → (l.filter p).length < (l.filter q).length
  | [], _, ⟨x, hx, _⟩ => by cases hx
  | y :: l, h, ⟨x, hx, ne⟩ => by
    have h1 := h y List.mem_cons_self
    have hl : ∀ x ∈ l, p x = true → q x = true := fun z hz => h z (List.mem_cons_of_mem _ hz)
    have le := filter_len hl
    cases e : p y
    · cases e2 : q y
      · have hx : x ∈ l := (List.mem_cons.mp hx).resolve_left fun z => by
          rw [z, e, e2] at ne
          exact ne rfl
        rw [List.filter_cons_of_neg (by rw [e]; decide), List.filter_cons_of_neg (by rw [e2]; decide)]
        exact filter_less hl ⟨x, hx, ne⟩
      · rw [List.filter_cons_of_neg (by rw [e]; decide), List.filter_cons_of_pos e2, List.length_cons]
        omega
    · have hx : x ∈ l := (List.mem_cons.mp hx).resolve_left fun z => by
        rw [z, e, h1 e] at ne
        exact ne rfl
      rw [List.filter_cons_of_pos e, List.filter_cons_of_pos (h1 e), List.length_cons, List.length_cons]
      have := filter_less hl ⟨x, hx, ne⟩
      omega
theorem stops (G : Gd codes hs ps n) : ∀ t, (∃ j, j < t ∧ Stat codes hs ps n j) ∨ (∀ row : List Bool, row.length = n → Sg codes hs ps t row = false) ∨ ∃ L, LotAt codes hs ps n t L ∧ t ≤ L.length
  | 0 => .inr (.inr ⟨[], lot_zero, Nat.le_refl _⟩)
  | t + 1 => by
    rcases stops G t with ⟨j, h1, h2⟩ | em | ⟨L, hL, ht⟩
    · exact .inl ⟨j, by omega, h2⟩
    · refine .inr (.inl fun row hn => ?_)
      cases e : Sg codes hs ps (t + 1) row with
      | false => rfl
      | true =>
        have := Sg.mono codes hs ps t row e
        rw [em row hn] at this
        cases this
    · by_cases z : Stat codes hs ps n t
      · exact .inl ⟨t, by omega, z⟩
      · rcases lot_exists G (t + 1) with em | ⟨L2, hL2⟩
        · exact .inr (.inl em)
        · refine .inr (.inr ⟨L2, hL2, ?_⟩)
          have a := (lot_fine G hL).1
          have b := (lot_fine G hL2).1
          have less : (St codes hs ps n (t + 1)).length < (St codes hs ps n t).length := by
            refine filter_less (fun row _ k => Sg.mono codes hs ps t row k) ?_
            by_cases y : ∃ row ∈ rowsM n, Sg codes hs ps (t + 1) row ≠ Sg codes hs ps t row
            · exact y
            · refine absurd (fun row hn => ?_) z
              by_cases q : Sg codes hs ps (t + 1) row = Sg codes hs ps t row
              · exact q
              · exact absurd ⟨row, (mem_rows n row).mpr hn, q⟩ y
          by_cases y : L.length < L2.length
          · omega
          · have h1 : 2 ^ L2.length ≤ 2 ^ L.length := Nat.pow_le_pow_right (by decide) (by omega)
            have h2 : (St codes hs ps n (t + 1)).length * 2 ^ L2.length < (St codes hs ps n t).length * 2 ^ L.length := Nat.mul_lt_mul_of_lt_of_le less h1 (Nat.pow_pos (by decide))
            omega
theorem lot_short (G : Gd codes hs ps n) {r : Nat} {L : List Nat} {b : List Bool} (h : LotAt codes hs ps n r L) (hn : b.length = n) (hb : Sg codes hs ps r b = true) : L.length ≤ n := by
  have a := (lot_fine G h).1
  have : 0 < (St codes hs ps n r).length := List.length_pos_iff.mpr fun z => by
    have : b ∈ St codes hs ps n r := List.mem_filter.mpr ⟨(mem_rows n b).mpr hn, hb⟩
    rw [z] at this
    cases this
  by_cases z : L.length ≤ n
  · exact z
  · have h1 : 2 ^ n < 2 ^ L.length := Nat.pow_lt_pow_right (by decide) (by omega)
    have h2 : 1 * 2 ^ L.length ≤ (St codes hs ps n r).length * 2 ^ L.length := Nat.mul_le_mul_right _ this
    omega
theorem stat_soon (G : Gd codes hs ps n) {b : List Bool} (hn : b.length = n) (hb : Sg codes hs ps (n + 1) b = true) : ∃ j, j ≤ n ∧ Stat codes hs ps n j := by
  rcases stops G (n + 1) with ⟨j, h1, h2⟩ | em | ⟨L, hL, ht⟩
  · exact ⟨j, by omega, h2⟩
  · rw [em b hn] at hb
    cases hb
  · have := lot_short G hL hn hb
    omega
theorem sg_down (codes : List Nat) (hs : List Str) (ps : List Nat) (b : List Bool) {i : Nat} : ∀ k, Sg codes hs ps (i + k) b = true → Sg codes hs ps i b = true
  | 0, h => h
  | k + 1, h => sg_down codes hs ps b k (Sg.mono codes hs ps (i + k) b h)
theorem sg_le (codes : List Nat) (hs : List Str) (ps : List Nat) (b : List Bool) {i j : Nat} (hij : i ≤ j) (h : Sg codes hs ps j b = true) : Sg codes hs ps i b = true := by
  refine sg_down codes hs ps b (j - i) ?_
  rw [show i + (j - i) = j by omega]
  exact h
/-- lost by a round, k + 1 at most, or kept for ever -/
theorem ends (G : Gd codes hs ps n) {b : List Bool} (hn : b.length = n) : (∃ r, 1 ≤ r ∧ r ≤ n + 1 ∧ Sg codes hs ps r b = false ∧ ∀ i, i < r → Sg codes hs ps i b = true) ∨ ((∀ i, Sg codes hs ps i b = true) ∧ ∃ j, j ≤ n ∧ Stat codes hs ps n j) := by
  cases e : Sg codes hs ps (n + 1) b with
  | true =>
    obtain ⟨j, hj, hs2⟩ := stat_soon G hn e
    refine .inr ⟨fun i => ?_, j, hj, hs2⟩
    rcases Nat.le_total i (n + 1) with z | z
    · exact sg_le codes hs ps b z e
    · rw [stat_ge G hs2 (i := i) (by omega) b hn]
      exact sg_le codes hs ps b (by omega) e
  | false =>
    refine .inl ?_
    have : ∀ k, k ≤ n + 1 → Sg codes hs ps k b = false → ∃ r, 1 ≤ r ∧ r ≤ n + 1 ∧ Sg codes hs ps r b = false ∧ ∀ i, i < r → Sg codes hs ps i b = true := fun k => by
      induction k with
      | zero => intro _ h; cases h
      | succ k ih =>
        intro hk h
        cases q : Sg codes hs ps k b with
        | false => exact ih (by omega) q
        | true => exact ⟨k + 1, by omega, hk, h, fun i hi => sg_le codes hs ps b (by omega) q⟩
    exact this (n + 1) (Nat.le_refl _) e
/-- what is told of a lot, by names -/
theorem lot_names (G : Gd codes hs ps n) {r : Nat} {L : List Nat} (h : LotAt codes hs ps n r L) {kept turns : List Str} (hk : kept.length = n) (nd : (kept ++ turns).Nodup) : neatM kept (everyM kept (St codes hs ps n r)) = some (L.map fun c => (tellM (kept ++ turns) c, c % 2 == 1)) := by
  let f : Fin n → Str := fun i => kept[i.val]'(by rw [hk]; exact i.isLt)
  have ndk : kept.Nodup := (List.nodup_append.mp nd).1
  have hf : ∀ a b, f a = f b → a = b := fun a b e => by
    have h1 := ndk.idxOf_getElem a.val (by rw [hk]; exact a.isLt)
    have h2 := ndk.idxOf_getElem b.val (by rw [hk]; exact b.isLt)
    have e2 : kept[a.val]'(by rw [hk]; exact a.isLt) = kept[b.val]'(by rw [hk]; exact b.isLt) := e
    rw [e2] at h1
    exact Fin.ext (by omega)
  have ek : kept = (List.finRange n).map f := by
    refine List.ext_getElem ?_ fun i h1 h2 => ?_
    · rw [List.length_map, List.length_finRange, hk]
    · rw [List.getElem_map, List.getElem_finRange]
      rfl
  have e1 : neatM kept (everyM kept (St codes hs ps n r)) = (neatM (List.finRange n) (everyM (List.finRange n) (St codes hs ps n r))).map (List.map (gM f)) := by
    rw [← neat_map hf, ← every_map hf, ← ek]
  rw [e1, (lot_fine G h).2]
  show some ((L.map (toldI n)).map (gM f)) = _
  rw [List.map_map]
  congr 1
  refine List.map_congr_left fun c hc => ?_
  show (((List.finRange n).filter fun i => c.testBit (i.val + 1)).map f, c % 2 == 1) = _
  congr 1
  have hlen := h.len c hc
  have e2 : tellM (kept ++ turns) c = (kept ++ turns).filter fun m => c.testBit ((kept ++ turns).idxOf m + 1) := tell_filter c _ _ 0 fun j m hm => by
    rw [nodup_idx nd hm, Nat.zero_add]
  rw [e2, List.filter_append]
  have e3 : turns.filter (fun m => c.testBit ((kept ++ turns).idxOf m + 1)) = [] := by
    rw [List.filter_eq_nil_iff]
    intro m hm
    have hnk : m ∉ kept := fun z => (List.nodup_append.mp nd).2.2 m z m hm rfl
    have : n ≤ (kept ++ turns).idxOf m := by
      rw [List.idxOf_append, if_neg hnk, hk]
      omega
    rw [Nat.testBit_lt_two_pow (Nat.lt_of_lt_of_le (lt_lenB c) (Nat.pow_le_pow_right (by decide) (by omega)))]
    decide
  rw [e3, List.append_nil]
  have e4 : kept.filter (fun m => c.testBit ((kept ++ turns).idxOf m + 1)) = ((List.finRange n).filter ((fun m => c.testBit ((kept ++ turns).idxOf m + 1)) ∘ f)).map f := by
    rw [← List.filter_map, ← ek]
  rw [e4]
  congr 1
  refine List.filter_congr fun i _ => ?_
  show c.testBit (i.val + 1) = c.testBit ((kept ++ turns).idxOf (f i) + 1)
  have : (kept ++ turns)[i.val]? = some (f i) := by
    rw [List.getElem?_append_left (by rw [hk]; exact i.isLt), List.getElem?_eq_getElem (by rw [hk]; exact i.isLt)]
  rw [nodup_idx nd this]
end
end Q1
set_option Elab.async false
set_option linter.all false
set_option maxRecDepth 100000
set_option maxHeartbeats 4000000
namespace Q1
open PySem L2 LamX
/-! ### what a game's data say -/
def truthOf (d : D) : Bool := match d.items? with
  | some [_, .bl b] => b
  | _ => false
def handOf (d : D) : Str := match d.items? with
  | some [_, .str h] => h
  | _ => ""
structure GameAs (d : D) (dk dt dn dr : D) (ks ts ns : List D) : Prop where
  it : d.items? = some [dk, dt, dn, dr]
  ik : dk.items? = some ks
  tt : dt.items? = some ts
  nn : dn.items? = some ns
  kp : ∀ x ∈ ks, ∃ m b, x.items? = some [.str m, .bl b]
  tp : ∀ x ∈ ts, ∃ m h, x.items? = some [.str m, .str h] ∧ (h = ("we" : Str) ∨ h = "they")
  nd : (nmsG d).Nodup
  ok : ∀ m ∈ nmsG d, PyData.strOk m = true
  nm : nmsG d = ks.map firstS ++ ts.map firstS
  nl : ns.length = ks.length
  np : ∀ x ∈ ns, ∃ m, x = .str m ∧ m ∈ nmsG d
theorem snd_bool {x : D} {p q : D} (hi : x.items? = some [p, q]) (h : (sndD x).isBool = true) : ∃ b, q = .bl b := by
  unfold sndD at h
  rw [hi] at h
  cases q <;> first | exact ⟨_, rfl⟩ | cases h
theorem snd_hand {x : D} {p q : D} (hi : x.items? = some [p, q]) (h : isHandG (sndD x) = true) : ∃ z, q = .str z ∧ (z = ("we" : Str) ∨ z = "they") := by
  unfold sndD at h
  rw [hi] at h
  cases q with
  | str z =>
    refine ⟨z, rfl, ?_⟩
    have h : (decide (z = ("we" : Str)) || decide (z = ("they" : Str))) = true := h
    rw [Bool.or_eq_true, decide_eq_true_iff, decide_eq_true_iff] at h
    exact h
  | _ => cases h
theorem pair_name {x : D} (h : pairB x = true) : ∃ m q, x.items? = some [.str m, q] ∧ isNameS m = true := by
  obtain ⟨p, q, e⟩ := pair_items h
  unfold pairB at h
  rw [e] at h
  cases p with
  | str m => exact ⟨m, q, e, h⟩
  | _ => cases h
theorem game_as {d : D} (h : gameB d = true) : ∃ dk dt dn dr ks ts ns, GameAs d dk dt dn dr ks ts ns := by
  unfold gameB at h
  cases e : d.items? with
  | none => rw [e] at h; cases h
  | some xs =>
    rw [e] at h
    match xs, h, e with
    | [k, t, n, r], h, e =>
      simp only [Bool.and_eq_true] at h
      obtain ⟨⟨hk, ht⟩, hne, hb, hh, hnd, hnl, hnn, hcl⟩ := h
      obtain ⟨ks, ik, kp⟩ := pairs_items hk
      obtain ⟨ts, it, tp⟩ := pairs_items ht
      have ik2 : itemsL k = ks := by unfold itemsL; rw [ik]
      have it2 : itemsL t = ts := by unfold itemsL; rw [it]
      rw [ik2] at hb hnl
      rw [it2] at hh
      obtain ⟨ns, inn, hnl⟩ : ∃ ns, n.items? = some ns ∧ ns.length = ks.length := by
        unfold D.isOf at hnl
        cases e2 : n.items? with
        | none => rw [e2] at hnl; cases hnl
        | some ns => rw [e2] at hnl; exact ⟨ns, rfl, by simpa using hnl⟩
      have in2 : itemsL n = ns := by unfold itemsL; rw [inn]
      rw [in2] at hnn
      have enm : nmsG d = ks.map firstS ++ ts.map firstS := by
        unfold nmsG nmsP
        rw [e]
        dsimp only
        rw [ik, it]
      have hok : ∀ x : D, pairB x = true → PyData.strOk (firstS x) = true := fun x hx => by
        obtain ⟨m, q, e3, hm⟩ := pair_name hx
        have : firstS x = m := by unfold firstS; rw [e3]
        rw [this]
        exact name_ok hm
      refine ⟨k, t, n, r, ks, ts, ns, e, ik, it, inn, fun x hx => ?_, fun x hx => ?_, of_decide_eq_true hnd, fun m hm => ?_, enm, hnl, fun x hx => ?_⟩
      · obtain ⟨m, q, e3, _⟩ := pair_name (kp x hx)
        obtain ⟨b, rfl⟩ := snd_bool e3 (List.all_eq_true.mp hb x hx)
        exact ⟨m, b, e3⟩
      · obtain ⟨m, q, e3, _⟩ := pair_name (tp x hx)
        obtain ⟨z, rfl, hz⟩ := snd_hand e3 (List.all_eq_true.mp hh x hx)
        exact ⟨m, z, e3, hz⟩
      · rw [enm] at hm
        rcases List.mem_append.mp hm with hm | hm
        · obtain ⟨x, hx, rfl⟩ := List.mem_map.mp hm
          exact hok x (kp x hx)
        · obtain ⟨x, hx, rfl⟩ := List.mem_map.mp hm
          exact hok x (tp x hx)
      · have := List.all_eq_true.mp hnn x hx
        cases x with
        | str m => exact ⟨m, rfl, of_decide_eq_true this⟩
        | _ => cases this
/-- a comprehension over enumerate of a list or a tuple -/
theorem lc_enumA {K : PySem.W.Frag} {a : Addr} {xs : List V} {H1 : Hp} {g : TG} {tt : TT} {te : TE} {vs : List Nat} {σ : L2.St} {Qd : Addr → Hp → Prop} (hq : SqL K H1 a xs ∨ SqT K H1 a xs)
    (Pv : Addr → Nat → Hp → Prop) (h0 : ∀ D, H1 D = none → Pv D 0 (upd H1 D (.lst []))) (hS : ∀ D i H', Pv D i H' → Same H1 H')
    (hs : ∀ D, H1 D = none → ∀ i T x H, xs[i]? = some x → Pv D i H → H T = none → g (.ref T) (wipe σ vs) (upd H T (.tup [.int (i : Nat), x])) fun σ2 H2 => wipe σ2 vs = wipe σ vs ∧ tt σ2 H2 fun b H3 =>
      if b = true then te σ2 H3 fun y H4 => ∃ acc, H4 D = some (.lst acc) ∧ acc.length < sizeLine ∧ Pv D (i + 1) (upd H4 D (.lst (acc ++ [y]))) else Pv D (i + 1) H3) (hd : ∀ D, H1 D = none → ∀ H, Pv D xs.length H → Qd D H) :
    ((SqL K H1 a xs) ∧ (fun (J : It) (H1 : Hp) => ∀ D, H1 D = none → ∃ W : Nat → Nat → Hp → Prop, (∃ m, W 0 m (upd H1 D (.lst []))) ∧ ∀ i m H, W i m H →
      (J.stop i H ∧ Qd D H) ∨ (J.go i H ∧ ∃ Nx : Hp → Prop, (∀ H', Nx H' → ∃ m', m' < m ∧ W (i + 1) m' H') ∧ ∀ x H', J.yld i H x H' → g x (wipe σ vs) H' fun σ2 H2 => wipe σ2 vs = wipe σ vs ∧ tt σ2 H2 fun b H3 =>
        if b = true then te σ2 H3 fun y H4 => ∃ acc, H4 D = some (.lst acc) ∧ acc.length < sizeLine ∧ Nx (upd H4 D (.lst (acc ++ [y]))) else Nx H3)) (Ite K a) H1) ∨ ((SqT K H1 a xs) ∧ (fun (J : It) (H1 : Hp) => ∀ D, H1 D = none → ∃ W : Nat → Nat → Hp → Prop, (∃ m, W 0 m (upd H1 D (.lst []))) ∧ ∀ i m H, W i m H →
      (J.stop i H ∧ Qd D H) ∨ (J.go i H ∧ ∃ Nx : Hp → Prop, (∀ H', Nx H' → ∃ m', m' < m ∧ W (i + 1) m' H') ∧ ∀ x H', J.yld i H x H' → g x (wipe σ vs) H' fun σ2 H2 => wipe σ2 vs = wipe σ vs ∧ tt σ2 H2 fun b H3 =>
        if b = true then te σ2 H3 fun y H4 => ∃ acc, H4 D = some (.lst acc) ∧ acc.length < sizeLine ∧ Nx (upd H4 D (.lst (acc ++ [y]))) else Nx H3)) (IteT K a) H1) := by
  rcases hq with hq | hq
  · refine .inl ⟨hq, fun D hD => lc_it walk_enum (Pv D) (h0 D hD) (fun i H' _ p => (hS D i H' p).seq hq) (fun i x H' H2 hi p y => ?_) (hd D hD)⟩
    obtain ⟨T, x1, x2, rfl, hT, rfl, e1, e2⟩ := y
    cases e1
    exact hs D hD i T x2 H' e2 p hT
  · refine .inr ⟨hq, fun D hD => lc_it walk_enumT (Pv D) (h0 D hD) (fun i H' _ p => seqT (hS D i H' p) hq) (fun i x H' H2 hi p y => ?_) (hd D hD)⟩
    obtain ⟨T, x1, x2, rfl, hT, rfl, e1, e2⟩ := y
    cases e1
    exact hs D hD i T x2 H' e2 p hT
theorem eqv_ints : ∀ ms ns : List Nat, PyData.eqvAll (pys (ms.map fun (c : Nat) => D.int (c : Nat))) (pys (ns.map fun (c : Nat) => D.int (c : Nat))) = decide (ms = ns)
  | [], [] => rfl
  | [], _ :: _ => rfl
  | _ :: _, [] => rfl
  | m :: ms, n :: ns => by
    have ih := eqv_ints ms ns
    show ((((m : Nat) : Int) == ((n : Nat) : Int)) && PyData.eqvAll (pys (ms.map fun (c : Nat) => D.int (c : Nat))) (pys (ns.map fun (c : Nat) => D.int (c : Nat)))) = _
    rw [ih, Bool.eq_iff_iff]
    simp only [Bool.and_eq_true, beq_iff_eq, decide_eq_true_eq, List.cons.injEq]
    constructor
    · rintro ⟨a, b⟩
      exact ⟨by omega, b⟩
    · rintro ⟨a, b⟩
      exact ⟨by rw [a], b⟩
theorem rep_ints (S : Addr → Prop) (H : Hp) : ∀ ms : List Nat, Reps S H (ms.map fun (c : Nat) => D.int (c : Nat)) (intsL ms)
  | [] => rfl
  | m :: ms => ⟨_, _, rfl, rfl, rep_ints S H ms⟩
theorem oks_ints (n : Nat) : ∀ ms : List Nat, oks n (ms.map fun (c : Nat) => D.int (c : Nat))
  | [] => trivial
  | m :: ms => ⟨ok_int n _, oks_ints n ms⟩
def intN : D → Nat
  | .int i => i.toNat
  | _ => 0
/-! ### sums_for_ever -/
abbrev sSfe : Stmt := top 30
abbrev nSfe : List Str := ["game", "sums", "names", "codes", "places", "nexts", "beginning", "lot", "rounds", "smaller", "place", "name", "_", "truth", "code"]
theorem scSfe : FnScope nSfe ["game", "sums"] (defScope sSfe) := ⟨rfl, rfl, rfl, by decide +kernel, rfl, by decide +kernel, by decide +kernel⟩
/-- one told sum -/
def toldD (names : List Str) (c : Nat) : D := .tup [.lst ((tellM names c).map D.str), .bl (c % 2 == 1)]
def keptD (names : List Str) (L : List Nat) : D := .tup [.str "kept", .lst (L.map (toldD names))]
def lostD (r : Nat) : D := .tup [.str "lost", .int (r : Nat)]
/-- the places of the next values, by their names -/
def nxOf (names : List Str) (ns : List D) : List Nat := ns.map fun x => names.idxOf (strOf x)
end Q1
set_option Elab.async false
set_option linter.all false
set_option maxRecDepth 100000
set_option maxHeartbeats 4000000
namespace Q1
open PySem L2 LamX
def begG : Nat → List Bool → List Nat
  | _, [] => []
  | i, b :: r => if b = true then mbM i :: begG (i + 1) r else begG (i + 1) r
theorem begG_snoc (b : Bool) : ∀ (r : List Bool) (i : Nat), begG i (r ++ [b]) = begG i r ++ (if b = true then [mbM (i + r.length)] else [])
  | [], i => by
    show (if b = true then mbM i :: begG (i + 1) [] else begG (i + 1) []) = _
    cases b <;> rfl
  | x :: r, i => by
    have ih := begG_snoc b r (i + 1)
    rw [show i + 1 + r.length = i + (x :: r).length by rw [List.length_cons]; omega] at ih
    show (if x = true then mbM i :: begG (i + 1) (r ++ [b]) else begG (i + 1) (r ++ [b])) = (if x = true then mbM i :: begG (i + 1) r else begG (i + 1) r) ++ _
    rw [ih]
    cases x <;> rfl
theorem begG_sum : ∀ (r : List Bool) (i : Nat), (begG i r).sum = 2 ^ i * encB r
  | [], i => by simp [begG, encB]
  | b :: r, i => by
    have ih := begG_sum r (i + 1)
    have e2 : 2 ^ (i + 1) = 2 * 2 ^ i := by rw [Nat.pow_succ]; omega
    rw [e2] at ih
    show (if b = true then mbM i :: begG (i + 1) r else begG (i + 1) r).sum = 2 ^ i * (2 * (b.toNat + encB r))
    have e3 : 2 ^ i * (2 * (b.toNat + encB r)) = 2 * 2 ^ i * b.toNat + 2 * 2 ^ i * encB r := by
      rw [← Nat.mul_assoc, Nat.mul_comm (2 ^ i) 2, Nat.mul_add]
    rw [e3, ← ih]
    cases b
    · simp
    · rw [if_pos rfl, List.sum_cons]
      unfold mbM
      simp
theorem begG_len : ∀ (r : List Bool) (i : Nat), (begG i r).length ≤ r.length
  | [], i => Nat.le_refl _
  | b :: r, i => by
    have := begG_len r (i + 1)
    show (if b = true then mbM i :: begG (i + 1) r else begG (i + 1) r).length ≤ r.length + 1
    split
    · rw [List.length_cons]; omega
    · omega
theorem reps_strs (S : Addr → Prop) (H : Hp) : ∀ ms : List Str, Reps S H (ms.map D.str) (ms.map V.str)
  | [] => rfl
  | m :: ms => ⟨_, _, rfl, rfl, reps_strs S H ms⟩
/-- what sums_for_ever rests on -/
structure Sv (K : PySem.W.Frag) (mg : Str → Option Value) where
  nr : Dn K mg "neat_rows" sNr ["codes"]
  lp : Dn K mg "last_place" sLp ["code"]
  sa : Dn K mg "states_ahead" sSa ["game", "codes", "behind"]
  sc : Dn K mg "stepped_code" sSc ["code", "nexts"]
  dh : Dn K mg "does_hold" sDh ["code", "state"]
  sf : Dn K mg "sums_for_ever" sSfe ["game", "sums"]
section
variable {P : Program} {w : World} {K : PySem.W.Frag} {mg : Str → Option Value} {base : Heap}
def spSfe (CG CS : Addr) : Sp := fun vs H Q E => ∃ (S S2 : Addr → Prop) (dg du : D) (vg vu : V), vs = [vg, vu] ∧ Rep S H dg vg ∧ GameIn dg ∧
  ((gameB dg = false ∧ ∀ H' dd, Same H H' → H' dd = some (.xd [("game", vg)]) → E (.ref CG) (some dd) H') ∨
   (gameB dg = true ∧ Rep S2 H du vu ∧ du.small ∧ (∀ ds, du.items? = some ds → ∀ x ∈ ds, SumIn x) ∧ (nmsG dg).length ≤ 90 ∧
    ((∃ i : Nat, firstSum (nmsG dg) du = some i ∧ ∀ H' dd, Same H H' → H' dd = some (.xd [("index", .int (i : Nat))]) → E (.ref CS) (some dd) H') ∨
     ∃ (codes : List Nat) (dk dt dn dr : D) (ks ts ns : List D), codesOf (nmsG dg) du = some codes ∧ codes.length ≤ 40 ∧ GameAs dg dk dt dn dr ks ts ns ∧ Gd codes (ts.map handOf) (nxOf (nmsG dg) ns) ks.length ∧
      (∀ r, 1 ≤ r → Sg codes (ts.map handOf) (nxOf (nmsG dg) ns) r (ks.map truthOf) = false → (∀ i, i < r → Sg codes (ts.map handOf) (nxOf (nmsG dg) ns) i (ks.map truthOf) = true) → ∀ H' v, Same H H' → Rep (fun a => H a = none) H' (lostD r) v → Q v H') ∧
      (∀ t L, (∀ i, i ≤ t → Sg codes (ts.map handOf) (nxOf (nmsG dg) ns) i (ks.map truthOf) = true) → Stat codes (ts.map handOf) (nxOf (nmsG dg) ns) ks.length t → LotAt codes (ts.map handOf) (nxOf (nmsG dg) ns) ks.length t L → ∀ H' v, Same H H' → Rep (fun a => H a = none) H' (keptD (nmsG dg) L) v → Q v H'))))
theorem sa_one {S : Addr → Prop} {dk dt dn dr d : D} {v : V} {l1 l2 : Addr} {cs bs : List Nat} {ks ts : List D} {hs : List Str} {H : Hp} {Q : VK} {E : XK} (hd : Rep S H d v) (it : d.items? = some [dk, dt, dn, dr]) (ik : dk.items? = some ks) (tt : dt.items? = some ts) (hh : ts.map turnH = hs.map some)
    (h1 : H l1 = some (.lst (intsL cs))) (h2 : H l2 = some (.lst (intsL bs))) (hl : cs.length + bs.length ≤ 60) (h12 : ∀ c ∈ cs ++ bs, lenB c ≤ 12) (hb : ∀ c ∈ cs ++ bs, lenB c < ks.length + hs.length + 2) (hk : ks.length ≤ 100)
    (k : ∀ H' r sml, Same H H' → H r = none → H' r = some (.lst (intsL sml)) → ((sml = [1] ∧ ∀ s, holdL (cs ++ bs) s = false) ∨ ∃ fs, Neat fs ∧ (∀ s, holdL fs s = holdL (cs ++ bs) s) ∧ (∀ f ∈ fs, lenB f < ks.length + hs.length + 2) ∧ sml = aheadC ks.length hs fs) → Q (.ref r) H') : spSa [v, .ref l1, .ref l2] H Q E :=
  ⟨S, dk, dt, dn, dr, d, v, l1, l2, cs, bs, ks, ts, hs, rfl, hd, it, ik, tt, hh, h1, h2, hl, h12, hb, hk, fun un H' r s n h => k H' r [1] s n h (.inl ⟨rfl, un⟩), fun fs nf ef lf H' r s n h => k H' r _ s n h (.inr ⟨fs, nf, ef, lf, rfl⟩)⟩
theorem codes_first {names : List Str} {d : D} {cs : List Nat} (h : codesOf names d = some cs) : firstSum names d = none := by
  unfold codesOf at h
  unfold firstSum
  cases e : d.items? with
  | none => rw [e] at h; cases h
  | some ds =>
    rw [e] at h
    exact stopAt_none 0 h
theorem ok_sfe (B : Bt mg) (B2 : Bt2 mg) (C : Cs mg) (V0 : Nv mg) (NG : Gm K mg) (NS : Sm K mg) (NV : Sv K mg) (RG : Er1 K mg "BadGame" "BadGame.__init__" (sErr 13) "game") (RS : Er1 K mg "BadSums" "BadSums.__init__" (sErr 11) "index") :
    FnOk P w K mg base (L2.CX P w) 7 NV.sf.f NV.sf.fd ["game", "sums"] (spSfe RG.C RS.C) := by
  have GG : FnOk P w K mg base (L2.CX P w) 6 NG.need.f NG.need.fd ["game"] (spNeedG RG.C) := ok_needG B C NG RG
  have GN : FnOk P w K mg base CX0 1 NG.ng.f NG.ng.fd ["game"] spNg := ok_ng NG.ng
  have GS : FnOk P w K mg base (L2.CX P w) 5 NS.need.f NS.need.fd ["names", "sums"] (spNs RS.C) := ok_ns B B2 C NS RS
  have GM : FnOk P w K mg base CX0 1 NS.mb.f NS.mb.fd ["place"] spMb := ok_mb NS.mb
  have GT : FnOk P w K mg base CX0 2 NS.ts.f NS.ts.fd ["names", "code"] spTs := ok_ts B NS.ts NS.mb
  have GC : FnOk P w K mg base CX0 2 NV.sc.f NV.sc.fd ["code", "nexts"] (spSc K) := ok_sc B NV.sc NS.mb
  have GD : FnOk P w K mg base CX0 1 NV.dh.f NV.dh.fd ["code", "state"] spDh := ok_dh NV.dh
  have GA : FnOk P w K mg base CX0 2 NV.sa.f NV.sa.fd ["game", "codes", "behind"] spSa := ok_sa B V0 NV.sa NV.nr NV.lp
  refine NV.sf.F.okX scSfe (fun vs H Q E h => ?_) (fun cdv A outer s H vs Q E hr h => ?_)
  · obtain ⟨S, S2, dg, du, vg, vu, rfl, _⟩ := h
    rfl
  · obtain ⟨S, S2, dg, du, vg, vu, rfl, hd, gi, k⟩ := h
    have hu := hu_of hr
    refine ⟨_, pss_cons (ps_expr (pe_callS GG (hr.mono (by decide)) (by rfl) NG.need.g NG.need.F.kp NG.need.b (fun σ => passAt (takes_of rfl rfl rfl rfl) σ) (pa_cons (pv 0) pa_nil)))
      (pss_cons (ps_set (i := 2) scSfe.nd rfl (Or.inr rfl) (pe_call GN (hr.mono (by decide)) (by rfl) NG.ng.g NG.ng.F.kp NG.ng.b .nil pass0 (pa_cons (pv 0) pa_nil)))
      (pss_cons (ps_set (i := 3) scSfe.nd rfl (Or.inl rfl) (pe_callS GS (hr.mono (by decide)) (by rfl) NS.need.g NS.need.F.kp NS.need.b (fun σ => passAt (takes_of rfl rfl rfl rfl) σ) (pa_cons (pv 2) (pa_cons (pv 1) pa_nil))))
      (pss_cons (ps_asg (pe_dc (own := [("place", 10), ("name", 11)]) (g := gTup K 2 (gCons (gName 10) (gCons (gName 11) gNil))) (tt := tYes) (tk := tVar 11) (tv := tVar 10) rfl scSfe.nd (pi_enum (by rfl) B.enumerate (pa_cons (pv 2) pa_nil)) (blkOk_by (own := [("place", 10), ("name", 11)]) (N := nSfe) (sc := defScope sSfe) (by decide +kernel))
          (fun _ _ _ _ _ => pg_tup (by rfl) (pgs_cons (pg_name (i := 10) scSfe.nd (by rfl) (Or.inl (by rfl)) (by exact .inr rfl)) (pgs_cons (pg_name (i := 11) scSfe.nd (by rfl) (Or.inl (by rfl)) (by exact .inr rfl)) pgs_nil))) (fun _ _ _ _ _ => pts_nil) (fun _ _ _ _ _ => pv 11) (fun _ _ _ _ _ => pv 10)) (pg_name (i := 4) scSfe.nd rfl (Or.inr rfl)))
      (pss_cons (ps_set (i := 5) scSfe.nd rfl (Or.inr rfl) (pe_lc (own := [("name", 11)]) (g := gName 11) (tt := tYes) (te := tCall spMb [] E0 (tCons (tDGet (tVar 4) (tVar 11)) tNil)) rfl scSfe.nd (pi_seq (pe_ix ix_seqA (pv 0) pe_int (fun _ _ => rfl))) (blkOk_by (own := [("name", 11)]) (N := nSfe) (sc := defScope sSfe) (by decide +kernel))
          (fun _ _ _ _ _ => pg_name (i := 11) scSfe.nd rfl (Or.inl rfl)) (fun _ _ _ _ _ => pts_nil) (fun _ _ _ _ _ => pe_call GM (hr.mono (by decide)) (by rfl) NS.mb.g NS.mb.F.kp NS.mb.b .nil pass0 (pa_cons (pe_dget hu (pv 4) (pv 11) (fun _ _ => rfl)) pa_nil))))
      (pss_cons (ps_set (i := 6) scSfe.nd rfl (Or.inr rfl) (pe_callB (cr_sum rfl) (by rfl) B.sum PyProof.Rows.boot_sum (pa_cons
          (pe_lc (own := [("place", 10), ("_", 12), ("truth", 13)]) (g := gTup K 2 (gCons (gName 10) (gCons (gSeq K 2 (gCons (gName 12) (gCons (gName 13) gNil))) gNil))) (tt := tB (tVar 13)) (te := tCall spMb [] E0 (tCons (tVar 10) tNil)) rfl scSfe.nd (pi_enumA (by rfl) B.enumerate (pa_cons (pe_ix ix_seqA (pv 0) pe_int (fun _ _ => rfl)) pa_nil)) (blkOk_by (own := [("place", 10), ("_", 12), ("truth", 13)]) (N := nSfe) (sc := defScope sSfe) (by decide +kernel))
            (fun _ _ _ _ _ => pg_tup (by rfl) (pgs_cons (pg_name (i := 10) scSfe.nd (by rfl) (Or.inl (by rfl)) (by exact .inr rfl)) (pgs_cons (pg_seq (by rfl) (pgs_cons (pg_name (i := 12) scSfe.nd (by rfl) (Or.inl (by rfl)) (by exact .inr rfl)) (pgs_cons (pg_name (i := 13) scSfe.nd (by rfl) (Or.inl (by rfl)) (by exact .inr rfl)) pgs_nil))) pgs_nil)))
            (fun _ _ _ _ _ => pts_one (pt_val (pv 13) (fun _ => rfl))) (fun _ _ _ _ _ => pe_call GM (hr.mono (by decide)) (by rfl) NS.mb.g NS.mb.F.kp NS.mb.b .nil pass0 (pa_cons (pv 10) pa_nil))) pa_nil)))
      (pss_cons (ps_set (i := 7) scSfe.nd rfl (Or.inl rfl) (pe_lst pa_nil))
      (pss_cons (ps_set (i := 8) scSfe.nd rfl (Or.inl rfl) pe_int)
      (pss_one (ps_while (passes_of rfl) (pt_val pe_bl (fun _ => rfl))
        (pss_cons (ps_set (i := 9) scSfe.nd rfl (Or.inl rfl) (pe_call GA (hr.mono (by decide)) (by rfl) NV.sa.g NV.sa.F.kp NV.sa.b .nil pass0 (pa_cons (pv 0) (pa_cons (pv 3) (pa_cons
            (pe_lc (own := [("code", 14)]) (g := gName 14) (tt := tYes) (te := tCall (spSc K) [] E0 (tCons (tVar 14) (tCons (tVar 5) tNil))) rfl scSfe.nd (pi_seq (pv 7)) (blkOk_by (own := [("code", 14)]) (N := nSfe) (sc := defScope sSfe) (by decide +kernel))
              (fun _ _ _ _ _ => pg_name (i := 14) scSfe.nd rfl (Or.inl rfl)) (fun _ _ _ _ _ => pts_nil) (fun _ _ _ _ _ => pe_call GC (hr.mono (by decide)) (by rfl) NV.sc.g NV.sc.F.kp NV.sc.b .nil pass0 (pa_cons (pv 14) (pa_cons (pv 5) pa_nil)))) pa_nil)))))
        (pss_cons (ps_aug (i := 8) scSfe.nd rfl (Or.inl rfl) pe_int ip_add)
        (pss_cons (ps_if (pt_not (pt_val (pe_callB (cr_all rfl) (by rfl) B.all PyProof.Rows.boot_all (pa_cons
            (pe_lc (own := [("code", 14)]) (g := gName 14) (tt := tYes) (te := tCall spDh [] E0 (tCons (tVar 14) (tCons (tVar 6) tNil))) rfl scSfe.nd (pi_seq (pv 9)) (blkOk_by (own := [("code", 14)]) (N := nSfe) (sc := defScope sSfe) (by decide +kernel))
              (fun _ _ _ _ _ => pg_name (i := 14) scSfe.nd rfl (Or.inl rfl)) (fun _ _ _ _ _ => pts_nil) (fun _ _ _ _ _ => pe_call GD (hr.mono (by decide)) (by rfl) NV.dh.g NV.dh.F.kp NV.dh.b .nil pass0 (pa_cons (pv 14) (pa_cons (pv 6) pa_nil)))) pa_nil)) (fun _ => rfl)))
            (pss_one (ps_ret (pe_tup (pa_cons pe_str (pa_cons (pv 8) pa_nil))))) pss_nil)
        (pss_cons (ps_if (pt_cmpR (op_eqD hr.units) (pv 9) (pv 7) (nomark _))
            (pss_one (ps_ret (pe_tup (pa_cons pe_str (pa_cons
              (pe_lc (own := [("code", 14)]) (g := gName 14) (tt := tYes) (te := tCall spTs [] E0 (tCons (tVar 2) (tCons (tVar 14) tNil))) rfl scSfe.nd (pi_seq (pv 7)) (blkOk_by (own := [("code", 14)]) (N := nSfe) (sc := defScope sSfe) (by decide +kernel))
                (fun _ _ _ _ _ => pg_name (i := 14) scSfe.nd rfl (Or.inl rfl)) (fun _ _ _ _ _ => pts_nil) (fun _ _ _ _ _ => pe_call GT (hr.mono (by decide)) (by rfl) NS.ts.g NS.ts.F.kp NS.ts.b .nil pass0 (pa_cons (pv 2) (pa_cons (pv 14) pa_nil)))) pa_nil))))) pss_nil)
        (pss_one (ps_set (i := 7) scSfe.nd rfl (Or.inl rfl) (pv 9)))))))))))))))), ?_⟩
    rcases k with ⟨eg, k⟩ | ⟨eg, hU, usm, uin, n90, k⟩
    · exact ⟨_, rfl, S, dg, vg, rfl, hd, gi, .inr ⟨eg, k⟩⟩
    refine ⟨_, rfl, S, dg, vg, rfl, hd, gi, .inl ⟨eg, fun H1 s1 => ?_⟩⟩
    obtain ⟨dk0, dt0, dn0, dr0, ks0, ts0, ns0, g0⟩ := game_as eg
    have l90 := n90
    rw [g0.nm, List.length_append, List.length_map, List.length_map] at l90
    refine ⟨_, rfl, S, dg, dk0, dt0, [dn0, dr0], ks0, ts0, vg, rfl, hd.same s1, g0.it, g0.ik, g0.tt, (fun x hx => ?_), (fun x hx => ?_), by omega, by omega, fun H2 lN s2 nN hN => ?_⟩
    · obtain ⟨m, b, e⟩ := g0.kp x hx
      unfold fstB
      rw [e]
    · obtain ⟨m, b, e, _⟩ := g0.tp x hx
      unfold fstB
      rw [e]
    have s02 := s1.trans s2
    rcases k with ⟨i, hi, k⟩ | ⟨codes, dk, dt, dn, dr, ks, ts, ns, hco, c40, ga, G, kL, kK⟩
    · refine ⟨_, rfl, _, rfl, S2, du, vu, lN, nmsG dg, rfl, hN, g0.nd, n90, g0.ok, hU.same s02, usm, uin, fun j hj H' dd sm e => ?_, fun cs hcs => ?_⟩
      · rw [hi] at hj
        cases hj
        exact k H' dd (s02.trans sm) e
      · rw [codes_first hcs] at hi
        cases hi
    refine ⟨_, rfl, _, rfl, S2, du, vu, lN, nmsG dg, rfl, hN, ga.nd, n90, ga.ok, hU.same s02, usm, uin, fun j hj => ?_, fun cs hcs H3 lC s3 nC hC => ?_⟩
    · rw [codes_first hco] at hj
      cases hj
    rw [hco] at hcs
    cases hcs
    have s03 := s02.trans s3
    have hN3 := s3 _ _ hN
    refine ⟨_, rfl, lN, _, rfl, SqL.of hN3, fun pA hpA => ?_⟩
    refine dc_it walk_enum (fun i H' => Same H3 H' ∧ H' pA = some (.dK (placesF 0 ((nmsG dg).take i)))) ⟨Same.new hpA, upd_same⟩ (fun i H' _ h => SqL.of (h.1 _ _ hN3)) ?_ ?_
    · rintro i x H' H2 hi2 ⟨sm', hz⟩ ⟨T0, v1, v2, rfl, hT0, rfl, hv1, hv2⟩
      cases hv1
      have hv2 : ((nmsG dg).map V.str)[i]? = some v2 := hv2
      rw [List.getElem?_map] at hv2
      cases hq3 : (nmsG dg)[i]? with
      | none => rw [hq3] at hv2; cases hv2
      | some m =>
        rw [hq3] at hv2
        cases hv2
        have hil : i < (nmsG dg).length := (List.getElem?_eq_some_iff.mp hq3).1
        have hlT : upd H' T0 (.tup [.int (i : Nat), .str m]) pA = some (.dK (placesF 0 ((nmsG dg).take i))) := Same.new hT0 _ _ hz
        refine ⟨T0, _, rfl, SqT.of upd_same, rfl, ?_⟩
        refine ⟨_, _, rfl, _, _, rfl, rfl, ?_⟩
        refine ⟨rfl, ?_⟩
        refine ⟨_, rfl, _, rfl, _, Sum.inr m, rfl, hlT, ?_, Same.at (sm'.trans (Same.new hT0)) hpA, ?_⟩
        · have := congrArg List.length (placesF_keys 0 ((nmsG dg).take i))
          rw [List.length_map, List.length_map, List.length_take] at this
          exact Nat.lt_of_le_of_lt (show (placesF 0 ((nmsG dg).take i)).length ≤ 1000 by omega) (by decide)
        · rw [upd_same, List.take_add_one, hq3]
          have := placesF_put ((nmsG dg).take i) m (nodup_at ga.nd hq3)
          rw [List.length_take, Nat.min_eq_left (by omega)] at this
          rw [this]
          rfl
    rintro H4 ⟨s4, h4⟩
    rw [List.length_map, List.take_length] at h4
    have s04 := s03.trans s4
    obtain ⟨a, us0, rfl, hq, rr⟩ := id (hd.seq (K := K) ga.it)
    obtain ⟨vk, _, rfl, rk, vt, _, rfl, rt, vn, _, rfl, rn, vr, _, rfl, rr4, rfl⟩ := rr
    have hq4 : SqL K H4 a [vk, vt, vn, vr] ∨ SqT K H4 a [vk, vt, vn, vr] := hq.elim (fun h => .inl (s04.seq h)) (fun h => .inr (seqT s04 h))
    have n4 := G.n4
    have m4 := G.m4
    rw [List.length_map] at m4
    have npl := ga.nl
    dsimp only [gName, tSeq, tAsg]
    refine lc_pure (K := K) (S := S) (σ := [some (.ref a), some vu, some (.ref lN), some (.ref lC), some (.ref pA), none, none, none, none, none, none, none, none, none, none]) (vs := [11]) (tl := tOp (rSeqA K) (tVar 0) (tC (.int 2))) (te := tCall spMb [] E0 (tCons (tDGet (tVar 4) (tVar 11)) tNil)) (g := gName 11) (d := dn) (ds := ns) (v := vn) (fun dx => .int (mbM ((nmsG dg).idxOf (strOf dx)) : Nat)) (rn.same s04) ga.nn (by omega) (fun R h => ⟨_, rfl, a, _, 2, vn, rfl, rfl, hq4, atI_nat (j := 2) rfl, h⟩) (fun dx x H' R hm sm' hx kk => ?_) mono_name fun H5 lX s5 nX hX => ?_
    · obtain ⟨m, rfl, hmn⟩ := ga.np dx hm
      cases (show x = .str m from hx)
      refine ⟨rfl, _, rfl, _, rfl, pA, _, rfl, ?_, (nmsG dg).idxOf m, rfl, ?_, kk H' (Same.refl _)⟩
      · rw [← placesK_at hmn]
        exact DGet.k (k := Sum.inr m) (sm' _ _ h4)
      · have := List.idxOf_lt_length_of_mem hmn
        omega
    have eX : (ns.map fun dx => V.int ((mbM ((nmsG dg).idxOf (strOf dx)) : Nat) : Int)) = ((nxOf (nmsG dg) ns).map mbM).map fun b => V.int (b : Nat) := by
      unfold nxOf
      rw [List.map_map, List.map_map]
      rfl
    rw [eX] at hX
    have s05 := s04.trans s5
    have hq5 : SqL K H5 a [vk, vt, vn, vr] ∨ SqT K H5 a [vk, vt, vn, vr] := hq.elim (fun h => .inl (s05.seq h)) (fun h => .inr (seqT s05 h))
    obtain ⟨ak, uk, evk, hqk, ruk⟩ := (rk.same s05).seq (K := K) ga.ik
    have luk := ruk.length
    refine ⟨_, rfl, a, _, 0, vk, rfl, rfl, hq5, atI_nat (j := 0) rfl, ak, uk, by rw [evk], lc_enumA hqk (fun D0 i H' => Same H5 H' ∧ H' D0 = some (.lst (intsL (begG 0 ((ks.map truthOf).take i))))) (fun D0 hD => ⟨Same.new hD, upd_same⟩) (fun D0 i H' h => h.1) ?_ ?_⟩
    · rintro D0 hD i T x H' hx ⟨sm', hz⟩ hT
      have hil : i < uk.length := (List.getElem?_eq_some_iff.mp hx).1
      obtain ⟨dx, hdx, hrx⟩ := (ruk.same sm').get hx
      obtain ⟨m, b, hxi⟩ := ga.kp dx (List.mem_of_getElem? hdx)
      have sT : Same H' (upd H' T (.tup [.int (i : Nat), x])) := Same.new hT
      have hz2 := sT _ _ hz
      obtain ⟨p, up, evp, hqp, rup⟩ := (hrx.same sT).seq (K := K) hxi
      obtain ⟨w1, _, rfl, _, w2, _, rfl, h2w, rfl⟩ := rup
      cases (show w2 = .bl b from h2w)
      have et : begG 0 ((ks.map truthOf).take (i + 1)) = begG 0 ((ks.map truthOf).take i) ++ (if b = true then [mbM i] else []) := by
        rw [List.take_add_one, List.getElem?_map, hdx]
        have : truthOf dx = b := by unfold truthOf; rw [hxi]
        show begG 0 ((ks.map truthOf).take i ++ [truthOf dx]) = _
        rw [begG_snoc, this, List.length_take, List.length_map, Nat.min_eq_left (by omega), Nat.zero_add]
      have bl := begG_len ((ks.map truthOf).take i) 0
      rw [List.length_take, List.length_map] at bl
      refine ⟨T, _, rfl, SqT.of upd_same, rfl, ?_⟩
      refine ⟨_, _, rfl, _, _, rfl, p, _, evp, hqp, rfl, ?_⟩
      refine ⟨_, _, rfl, _, _, rfl, rfl, rfl, ?_⟩
      refine ⟨rfl, _, rfl, b, rfl, ?_⟩
      cases b with
      | false =>
        refine iteF ⟨sm'.trans sT, ?_⟩
        rw [et, if_neg (by decide), List.append_nil]
        exact hz2
      | true =>
        refine iteT ?_
        refine ⟨_, rfl, i, rfl, by omega, _, hz2, ?_, Same.at (sm'.trans sT) hD, ?_⟩
        · unfold intsL
          rw [List.length_map]
          exact Nat.lt_of_le_of_lt (show _ ≤ 10 by omega) (by decide)
        · rw [upd_same, et, if_pos rfl]
          unfold intsL
          rw [List.map_append]
          rfl
    rintro D0 hD H6 ⟨s6, h6⟩
    have e6 : (ks.map truthOf).take uk.length = ks.map truthOf := by rw [luk]; exact List.take_of_length_le (by rw [List.length_map]; exact Nat.le_refl _)
    rw [e6] at h6
    have s06 := s05.trans s6
    have e6b : intsL (begG 0 (ks.map truthOf)) = ((begG 0 (ks.map truthOf)).map fun n => ((n : Nat) : Int)).map V.int := by
      unfold intsL
      rw [List.map_map]
      rfl
    rw [e6b] at h6
    refine ⟨D0, _, rfl, SqL.of h6, ?_⟩
    rw [sum_cast, begG_sum, Nat.pow_zero, Nat.one_mul]
    have b64 : encB (ks.map truthOf) < 64 := by
      have h1 := encB_lt (ks.map truthOf)
      rw [List.length_map] at h1
      exact Nat.lt_of_lt_of_le h1 (Nat.le_trans (Nat.pow_le_pow_right (by decide) (show ks.length + 1 ≤ 5 by omega)) (by decide))
    have hbl : (ks.map truthOf).length = ks.length := List.length_map _
    generalize hb0 : ks.map truthOf = b0 at *
    generalize hps : nxOf (nmsG dg) ns = ps at *
    generalize hhs : ts.map handOf = hs at *
    have hpl := G.pl
    have hsl : hs.length = ts.length := by rw [← hhs, List.length_map]
    have htu : ts.map turnH = hs.map some := by
      rw [← hhs, List.map_map]
      refine List.map_congr_left fun x hx => ?_
      obtain ⟨m, z, e, _⟩ := ga.tp x hx
      show turnH x = some (handOf x)
      unfold turnH handOf
      rw [e]
    have hN6 := (s3.trans (s4.trans (s5.trans s6))) _ _ hN
    have hC6 := (s4.trans (s5.trans s6)) _ _ hC
    have hX6 := s6 _ _ hX
    clear h6 e6b e6 hqk ruk hq5 eX hq4 h4 hpA nX hX
    refine ⟨Nat.zero_le _, fun lA hlA => ?_⟩
    have s7 : Same H6 (upd H6 lA (.lst [])) := Same.new hlA
    have hl7 : upd H6 lA (.lst []) lA = some (.lst (intsL [])) := upd_same
    generalize upd H6 lA (.lst []) = H7 at s7 hl7 ⊢
    have s07 := s06.trans s7
    have hN7 := s7 _ _ hN6
    have hC7 := s7 _ _ hC6
    have hX7 := s7 _ _ hX6
    refine while_by (fun σ H' => ∃ (r : Nat) (lA : Addr) (lot : List Nat) (o9 : Option V), σ = [some (.ref a), some vu, some (.ref lN), some (.ref lC), some (.ref pA), some (.ref lX), some (.int (encB b0 : Nat)), some (.ref lA), some (.int (r : Nat)), o9, none, none, none, none, none] ∧ Same H7 H' ∧ H' lA = some (.lst (intsL lot)) ∧ LotAt codes hs ps ks.length r lot ∧ (∀ i, i ≤ r → Sg codes hs ps i b0 = true) ∧ ∀ j, j < r → ¬ Stat codes hs ps ks.length j)
      (fun σ _ => match σ[8]? with | some (some (V.int w)) => 100 - w.toNat | _ => 0) ⟨0, lA, [], none, rfl, Same.refl _, hl7, lot_zero, (fun i hi => by rw [Nat.le_zero.mp hi]; rfl), fun j hj => by cases hj⟩ ?_ ?_
    · rintro σ H' ⟨r, lA, lot, o9, rfl, sm, hl, hlot, hall, hns⟩
      refine ⟨true, rfl, iteT ?_⟩
      have r4 : r ≤ ks.length := by
        by_cases z : r ≤ ks.length
        · exact z
        · obtain ⟨j, hj, hst⟩ := stat_soon G hbl (hall (ks.length + 1) (by omega))
          exact absurd hst (hns j (by omega))
      have ll4 := lot_short G hlot hbl (hall r (Nat.le_refl _))
      have sH := s07.trans sm
      refine ⟨_, rfl, _, rfl, ?_⟩
      refine lc_pure (K := K) (S := fun _ => True) (σ := [some (.ref a), some vu, some (.ref lN), some (.ref lC), some (.ref pA), some (.ref lX), some (.int (encB b0 : Nat)), some (.ref lA), some (.int (r : Nat)), o9, none, none, none, none, none]) (vs := [14]) (tl := tVar 7) (te := tCall (spSc K) [] E0 (tCons (tVar 14) (tCons (tVar 5) tNil))) (g := gName 14) (d := .lst (lot.map fun (c : Nat) => D.int (c : Nat))) (ds := lot.map fun (c : Nat) => D.int (c : Nat)) (v := .ref lA) (fun dx => .int (stepM (intN dx) (ps.map mbM) : Nat)) ⟨lA, _, rfl, trivial, hl, rep_ints _ _ _⟩ rfl (by rw [List.length_map]; omega) (fun R h => ⟨_, rfl, h⟩) (fun dx x H2 R hm sm' hx kk => ?_) mono_name fun H8 lB s8 nB hB => ?_
      · obtain ⟨c, _, rfl⟩ := List.mem_map.mp hm
        cases (show x = .int (c : Nat) from hx)
        exact ⟨rfl, _, rfl, _, rfl, c, lX, ps.map mbM, rfl, SqL.of (sm' _ _ (sm _ _ hX7)), by rw [List.length_map]; omega, fun H3 s3 => kk H3 s3⟩
      have eB : ((lot.map fun (c : Nat) => D.int (c : Nat)).map fun dx => V.int ((stepM (intN dx) (ps.map mbM) : Nat) : Int)) = intsL (lot.map fun c => stepM c (ps.map mbM)) := by
        unfold intsL
        rw [List.map_map, List.map_map]
        rfl
      rw [eB] at hB
      have s78 := sm.trans s8
      have s08 := sH.trans s8
      have rdl : ∀ c ∈ codes ++ lot.map (fun c => stepM c (ps.map mbM)), lenB c < ks.length + hs.length + 2 := round_len G lot
      dsimp only [tNil]
      refine sa_one (hd.same s08) ga.it ga.ik ga.tt htu (s78 _ _ hC7) hB (by rw [List.length_map]; omega) (fun c hc => by have := rdl c hc; omega) rdl (by omega) fun H9 lS sml s9 nS hS cond => ?_
      have cond2 : (sml.length ≤ 13 ∧ holdL sml (encB b0) = Sg codes hs ps (r + 1) b0) ∧ (Sg codes hs ps (r + 1) b0 = true → LotAt codes hs ps ks.length (r + 1) sml) := by
        have bad : ∀ row : List Bool, row.length = ks.length → sml = [1] → (∀ row : List Bool, row.length = ks.length → Sg codes hs ps (r + 1) row = false) → (sml.length ≤ 13 ∧ holdL sml (encB b0) = Sg codes hs ps (r + 1) b0) ∧ (Sg codes hs ps (r + 1) b0 = true → LotAt codes hs ps ks.length (r + 1) sml) := fun _ _ e un => by
          subst e
          refine ⟨⟨by decide, ?_⟩, fun z => ?_⟩
          · rw [un b0 hbl]
            unfold holdL
            rw [List.all_cons, hold_one]
            rfl
          · rw [un b0 hbl] at z
            cases z
        rcases cond with ⟨e, un⟩ | ⟨fs, nf, ef, lf, e⟩
        · exact bad b0 hbl e fun row hn => sg_none (n := ks.length) (by omega) hpl hlot.eq un row hn
        · subst e
          rcases lot_next G hlot nf lf ef with ⟨e, un⟩ | h
          · exact bad b0 hbl e un
          · exact ⟨⟨lens_le (h.neat.up.imp fun {a b} z => by omega) (fun f hf => (h.neat.two f hf).2), h.eq b0 hbl⟩, fun _ => h⟩
      obtain ⟨⟨c13, ch⟩, cl⟩ := cond2
      have s09 := s08.trans s9
      have hl9 := (s8.trans s9) _ _ hl
      refine ⟨_, rfl, _, _, rfl, rfl, ?_⟩
      dsimp only
      refine all_lc (K := K) (S := fun _ => True) (σ := [some (.ref a), some vu, some (.ref lN), some (.ref lC), some (.ref pA), some (.ref lX), some (.int (encB b0 : Nat)), some (.ref lA), some (.int ((r : Int) + 1)), some (.ref lS), none, none, none, none, none]) (vs := [14]) (tl := tVar 9) (te := tCall spDh [] E0 (tCons (tVar 14) (tCons (tVar 6) tNil))) (g := gName 14) (d := .lst (sml.map fun (c : Nat) => D.int (c : Nat))) (ds := sml.map fun (c : Nat) => D.int (c : Nat)) (v := .ref lS) (fun dx => holdB (intN dx) (encB b0)) ⟨lS, _, rfl, trivial, hS, rep_ints _ _ _⟩ rfl (by rw [List.length_map]; omega) (fun R h => ⟨_, rfl, h⟩) (fun dx x H2 R hm sm' hx kk => ?_) mono_name fun H10 s10 => ⟨_, rfl, ?_⟩
      · obtain ⟨c, _, rfl⟩ := List.mem_map.mp hm
        cases (show x = .int (c : Nat) from hx)
        exact ⟨rfl, _, rfl, _, rfl, c, encB b0, rfl, b64, kk H2 (Same.refl _)⟩
      have ea : (sml.map fun (c : Nat) => D.int (c : Nat)).all (fun dx => holdB (intN dx) (encB b0)) = Sg codes hs ps (r + 1) b0 := by
        rw [List.all_map, ← ch]
        rfl
      rw [ea]
      have s010 := s09.trans s10
      cases es : Sg codes hs ps (r + 1) b0 with
      | false =>
        refine iteT ?_
        refine ⟨_, rfl, by show 2 ≤ sizeLine; decide, fun t ht => ?_⟩
        refine kL (r + 1) (by omega) es (fun i hi => hall i (by omega)) _ (.ref t) (s010.trans (Same.new ht)) ⟨t, _, rfl, upd_same, ?_⟩
        exact ⟨_, _, rfl, rfl, _, _, rfl, rfl, rfl⟩
      | true =>
        refine iteF ?_
        have hlot2 := cl es
        have hS10 := s10 _ _ hS
        have hl10 := s10 _ _ hl9
        have r1 : Rep (fun _ => True) H10 (.lst (sml.map fun (c : Nat) => D.int (c : Nat))) (.ref lS) := ⟨lS, _, rfl, trivial, hS10, rep_ints _ _ _⟩
        have r2 : Rep (fun _ => True) H10 (.lst (lot.map fun (c : Nat) => D.int (c : Nat))) (.ref lA) := ⟨lA, _, rfl, trivial, hl10, rep_ints _ _ _⟩
        have ok1 : (D.lst (sml.map fun (c : Nat) => D.int (c : Nat))).ok 1 := oks_ints 0 sml
        have ok2 : (D.lst (lot.map fun (c : Nat) => D.int (c : Nat))).ok 1 := oks_ints 0 lot
        refine ⟨_, rfl, _, rfl, _, _, r1.dp ok1, r2.dp ok2, D.ok_shaped ok1 (by decide), D.ok_shaped ok2 (by decide), _, rfl, ?_⟩
        have ee : PyData.eqv (D.lst (sml.map fun (c : Nat) => D.int (c : Nat))).py (D.lst (lot.map fun (c : Nat) => D.int (c : Nat))).py = decide (sml = lot) := eqv_ints sml lot
        rw [ee]
        by_cases et : sml = lot
        · rw [decide_eq_true et]
          refine iteT ?_
          have hst : Stat codes hs ps ks.length r := fun row hn => by
            rw [← hlot2.eq row hn, et, hlot.eq row hn]
          have hN10 : H10 lN = some (.lst ((nmsG dg).map V.str)) := (s78.trans (s9.trans s10)) _ _ hN7
          refine ⟨_, rfl, lA, rfl, lc_seq (ExtN.refl H10) (.inl (SqL.of hl10)) (fun D0 i H' => Same H10 H' ∧ ∃ vs, H' D0 = some (.lst vs) ∧ Reps (fun b => H b = none ∧ b ≠ D0) H' ((lot.take i).map (toldD (nmsG dg))) vs) (fun D0 hD => ⟨Same.new hD, [], upd_same, rfl⟩) (fun D0 i H' h => extN_of h.1) ?_ ?_⟩
          · rintro D0 hD i x H' hx ⟨sm', vs, hz, hvs⟩
            obtain ⟨c, hci, rfl⟩ : ∃ c : Nat, lot[i]? = some c ∧ x = .int (c : Nat) := by
              unfold intsL at hx
              rw [List.getElem?_map] at hx
              cases e : lot[i]? with
              | none => rw [e] at hx; cases hx
              | some z => rw [e] at hx; exact ⟨z, rfl, (Option.some.inj hx).symm⟩
            have lvs := hvs.length
            rw [List.length_map, List.length_take] at lvs
            refine ⟨rfl, ?_⟩
            unfold tYes
            refine iteT ?_
            refine ⟨_, rfl, _, rfl, lN, nmsG dg, c, rfl, sm' _ _ hN10, n90, fun H11 t L s11 nL ht hL => ⟨vs, s11 _ _ hz, Nat.lt_of_le_of_lt (show vs.length ≤ 10 by omega) (by decide), Same.at (sm'.trans s11) hD, _, upd_same, ?_⟩⟩
            rw [List.take_add_one, hci, List.map_append]
            have nLH : H L = none := s010.free (sm'.free nL)
            have nLD : L ≠ D0 := fun z => by
              rw [z, hz] at nL
              cases nL
            have st : Stay (fun b => H b = none ∧ b ≠ D0) H11 (upd H11 D0 (.lst (vs ++ [.ref t]))) := stay_upd (s11 _ _ hz) (nd_lst fun z => z.2 rfl)
            refine Reps.append (Reps.mono (fun _ z => z) st (hvs.same s11)) (Reps.one (Rep.mono (fun _ z => z) st ⟨t, _, rfl, ht, .ref L, _, rfl, ⟨L, _, rfl, ⟨nLH, nLD⟩, hL, reps_strs _ _ _⟩, .bl (c % 2 == 1), _, rfl, rfl, rfl⟩))
          · rintro D0 hD H11 ⟨s11, vs, hz, hvs⟩
            have e5 : lot.take (intsL lot).length = lot := by
              unfold intsL
              rw [List.length_map, List.take_length]
            rw [e5] at hvs
            refine ⟨by show 2 ≤ sizeLine; decide, fun t ht => ?_⟩
            refine kK r lot hall hst hlot _ (.ref t) ((s010.trans s11).trans (Same.new ht)) ⟨t, _, rfl, upd_same, ?_⟩
            have s12 : Same H11 (upd H11 t (.tup [.str "kept", .ref D0])) := Same.new ht
            exact ⟨_, _, rfl, rfl, .ref D0, _, rfl, ⟨D0, vs, rfl, s010.free hD, s12 _ _ hz, Reps.mono (fun _ z => z.1) (stay_of s12) hvs⟩, rfl⟩
        · rw [decide_eq_false et]
          refine iteF ?_
          refine ⟨_, rfl, ⟨r + 1, lS, sml, _, rfl, s78.trans (s9.trans s10), hS10, hlot2, fun i hi => ?_, fun j hj hst => ?_⟩, ?_⟩
          · by_cases z : i = r + 1
            · rw [z]
              exact es
            · exact hall i (by omega)
          · by_cases z : j = r
            · subst z
              exact et (lot_uniq G hlot2 hlot hst)
            · exact hns j (by omega) hst
          · show 100 - ((r : Int) + 1).toNat < 100 - ((r : Int)).toNat
            omega
    · intro σ H2 Q1 Q2 hQ
      rintro ⟨b, e, h⟩
      exact ⟨b, e, hQ _ _ h⟩
end
end Q1
set_option Elab.async false
set_option linter.all false
set_option maxRecDepth 100000
set_option maxHeartbeats 4000000
namespace Q1
open PySem PySem.Spec L2 LamX PyProof.Rows
/-! ### dict(zip(a, b)) -/
/-- an object of ours, tracked from now on -/
theorem inv_track {X : Cx} {pins : List (Addr × Obj)} {σ : L2.St} {H : Hp} {s : Shared} {T : Addr} {ob : HO} (I : Inv X pins σ H s) (hf : FpOk X pins H T) (new : ObjOk X.prog X.w (upd H T ob) s.heap T ob) : Inv X pins σ (upd H T ob) s := by
  have key := I.step (h' := s.heap) (H' := upd H T ob) (g' := s.gens) (t' := s.toks) (d' := s.drawn) (ch := [T]) (fun b hb => by
      rw [show b = T by simpa using hb]
      exact ⟨hf.2.2.2.1, hf.2.1, hf.2.2.2.2.1, hf.2.2.2.2.2⟩) (fun b o _ _ _ e _ => e) (fun b o _ _ _ e _ => ⟨o.slots, e⟩) (fun b o hb _ n => by rw [upd_ne (by simpa using hb)]; exact n) (fun b o _ e => ⟨o, e⟩)
      (fun b xs e => by rw [upd_ne (ne_of_none e hf.1)]; exact e) (fun b o u e => by rw [upd_ne (ne_of_none e hf.1)]; exact e) (fun b ps e => ⟨#[], by rw [upd_ne (ne_of_none e hf.1), e]; simp⟩) (fun m hm => hm) (fun b u e => ?_) I.bare
  · exact key
  · by_cases hb : b = T
    · subst hb
      rw [upd_same] at e
      cases e
      exact new
    · rw [upd_ne hb] at e
      exact (I.hok b u e).stay (fun c v _ q => q) (fun c q => by rw [upd_ne (ne_of_none q hf.1)]; exact q) fun c xs q => by rw [upd_ne (ne_of_none q hf.1)]; exact q
theorem kv_zip : ∀ {ks : List Key} {ys : List V} {us : List Value}, Vals ys us → ks.length = ys.length → KV (ks.zip ys) (ks.zip us)
  | [], _, _, _, _ => .nil
  | k :: ks, [], _, _, e => by cases e
  | k :: ks, y :: ys, _, .cons r t, e => by
    rw [List.zip_cons_cons, List.zip_cons_cons]
    exact .cons ⟨rfl, r⟩ (kv_zip t (by simpa using e))
def tDZip (K : PySem.W.Frag) (ta : TA) : TE := fun σ H Q => ta σ H fun vs H1 => ∃ (a b : Addr) (ks : List Key) (ys : List V), vs = [.ref a, .ref b] ∧ SqL K H1 a (ks.map kV) ∧ SqL K H1 b ys ∧ ks.length = ys.length ∧ ks.length ≤ sizeLine ∧
  ∀ q, H1 q = none → Q (.ref q) (upd H1 q (.dK (mergeK [] (ks.zip ys))))
theorem pe_dictZip {X : Cx} {e e2 : Expr} {ta : TA} {p pos p2 pos2 : Pos} (hc : X.calm = true) (hg : Gl X "dict") (hm : X.mg "dict" = none) (hg2 : Gl X "zip") (hm2 : X.mg "zip" = none) (ha : PA X [e, e2] ta)
    (na : starEach [.Call (.Name "zip" p2) [e, e2] [] pos2] X.env = (false, eval (.Call (.Name "zip" p2) [e, e2] [] pos2) X.env) :: starEach [] X.env := by rfl)
    (hs : starEach [e, e2] X.env = (false, eval e X.env) :: starEach [e2] X.env := by rfl) (hpl : (backTo pos2 (starEach [e2] X.env)).any (·.1) = false := by rfl) :
    PE X (.Call (.Name "dict" p) [.Call (.Name "zip" p2) [e, e2] [] pos2] [] pos) (tDZip X.K ta) := by
  refine ⟨fun pins s σ H Q I h => ?_⟩
  refine Call_ (ld_blt I hg hm PyProof.Rows.boot_dict (PyProof.Rows.callWith_type1 (args_cons ?_ na) na))
  refine Call_ (ld_blt I hg2 hm2 PyProof.Rows.boot_zip (PyProof.Rows.callWith_type1 (thn (ha.run pos2 pins s σ H _ I h) fun us s1 ⟨vs, H1, I1, r1, q1⟩ => ?_) hs hpl))
  obtain ⟨a, b, ks, ys, ex, hqx, hqy, hl, hn, q⟩ := q1
  subst ex
  obtain ⟨u, u2, rfl, r, r'⟩ := vals2 r1
  cases r
  cases r'
  obtain ⟨its, rv, p1, _⟩ := I1.list hqx
  obtain ⟨its2, rv2, p2, _⟩ := I1.list hqy
  refine call_zip_2 p1.isList p2.isList fun h' hz hTI hTO h1 h2 hsz hk => args_nil ?_
  have I2 : Inv X pins σ H1 { s1 with heap := h' } := I1.kept (t' := s1.toks) hk
  have l1 := rv.length
  rw [List.length_map] at l1
  have l2 := rv2.length
  have fp : ∀ c, s1.heap.objs.size ≤ c → FpOk X pins H1 c := fun c hle => I1.fpOk hle (I1.hok.fresh hle)
  have rel := kv_zip rv2 hl
  refine PySem.call_dict_pairs (knd := mixKind X.prog X.w) (kvs := ks.zip its2) (PairArg.zip _ _ _ _ _ a b (PySem.W.ktu_apart s1.heap.objs.size a b p1.lt p2.lt) its.toArray its2.toArray) (I1.ok.hd hc)
    ⟨hz, hTI, ⟨_, _, hTO⟩, h1, h2, p1.isList.at fun o e => hk _ o e, p2.isList.at fun o e => hk _ o e⟩ ⟨?_, fun i key v hv => ?_⟩ ?_ fun h'' tk hd hk2 => ?_
  · rw [List.length_zip]
    simp
    omega
  · obtain ⟨e1, e2⟩ := hv
    have e1 : its[i]? = some key := by simpa using e1
    have e2 : its2[i]? = some v := by simpa using e2
    have hil : i < ks.length := by
      have := (List.getElem?_eq_some_iff.mp e1).1
      omega
    obtain ⟨key2, hu, ru⟩ := rv.get (i := i) (x := kV ks[i]) (by rw [List.getElem?_map, List.getElem?_eq_getElem hil]; rfl)
    rw [e1] at hu
    cases hu
    refine ⟨ks[i], ?_, kV_is (P := X.prog) (w := X.w) ru⟩
    rw [List.getElem?_zip_eq_some]
    exact ⟨List.getElem?_eq_getElem hil, e2⟩
  · simp
    omega
  · have hT : s1.heap.objs.size ≤ h'.objs.size := by rw [hsz]; exact Nat.le_add_right _ _
    have I3 : Inv X pins σ H1 { s1 with heap := h'', toks := tk } := Inv.turnedL (s := { s1 with heap := h' }) (t' := tk) (ch := [s1.heap.objs.size + 4, s1.heap.objs.size + 3, s1.heap.objs.size, s1.heap.objs.size + 1]) I2 (fun b o hb e => hk2 b o hb e) (fun c hcm => by
      refine fp c ?_
      have e' : c = s1.heap.objs.size + 4 ∨ c = s1.heap.objs.size + 3 ∨ c = s1.heap.objs.size ∨ c = s1.heap.objs.size + 1 := by simpa using hcm
      rcases e' with q | q | q | q <;> rw [q] <;> first | exact Nat.le_refl _ | exact Nat.le_add_right _ _)
    have hm' : (h'.objs.size == sysModules) = false := beq_eq_false_iff_ne.mpr (Nat.ne_of_gt (Nat.lt_of_lt_of_le I1.big hT))
    have hlen : (mergeK [] (ks.zip ys)).length ≤ sizeLine := by
      refine Nat.le_trans (length_mergeK _ []) ?_
      rw [List.length_nil, Nat.zero_add, List.length_zip]
      omega
    exact ⟨.ref h'.objs.size, upd H1 h'.objs.size (.dK (mergeK [] (ks.zip ys))), inv_track I3 (fp _ hT) (show ObjOk X.prog X.w _ _ _ (.dK (mergeK [] (ks.zip ys))) from ⟨hlen, hm', merged [] (ks.zip its2), KV.merge rel .nil, hd⟩), rfl, q _ (I1.hok.fresh hT)⟩
end Q1
set_option Elab.async false
set_option linter.all false
set_option maxRecDepth 100000
set_option maxHeartbeats 4000000
namespace Q1
open PySem L2 LamX
/-- a sum as data -/
def sumD (o : List Str × Bool) : D := .tup [.lst (o.1.map D.str), .bl o.2]
def rowD (r : List Bool) : D := .lst (r.map D.bl)
def lotD (l : List Nat) : D := .lst (l.map fun (c : Nat) => D.int (c : Nat))
theorem strs_vals {S : Addr → Prop} {H : Hp} : ∀ {ms : List Str} {us : List V}, Reps S H (ms.map D.str) us → us = ms.map V.str
  | [], _, h => h
  | m :: ms, _, h => by
    obtain ⟨v, r, rfl, h1, h2⟩ := h
    cases (show v = .str m from h1)
    rw [strs_vals h2]
    rfl
theorem bls_vals {S : Addr → Prop} {H : Hp} : ∀ {ms : List Bool} {us : List V}, Reps S H (ms.map D.bl) us → us = ms.map V.bl
  | [], _, h => h
  | m :: ms, _, h => by
    obtain ⟨v, r, rfl, h1, h2⟩ := h
    cases (show v = .bl m from h1)
    rw [bls_vals h2]
    rfl
theorem ints_vals {S : Addr → Prop} {H : Hp} : ∀ {ms : List Nat} {us : List V}, Reps S H (ms.map fun (c : Nat) => D.int (c : Nat)) us → us = intsL ms
  | [], _, h => h
  | m :: ms, _, h => by
    obtain ⟨v, r, rfl, h1, h2⟩ := h
    cases (show v = .int (m : Nat) from h1)
    rw [ints_vals h2]
    rfl
theorem reps_bls (S : Addr → Prop) (H : Hp) : ∀ ms : List Bool, Reps S H (ms.map D.bl) (ms.map V.bl)
  | [] => rfl
  | m :: ms => ⟨_, _, rfl, rfl, reps_bls S H ms⟩
section
variable {P : Program} {w : World} {K : PySem.W.Frag} {mg : Str → Option Value} {base : Heap}
/-! ### _law_o_holds -/
abbrev sOh : Stmt := top 46
abbrev nOh : List Str := ["one", "truths", "odd", "mark"]
theorem scOh : FnScope nOh ["one", "truths"] (defScope sOh) := ⟨rfl, rfl, rfl, by decide +kernel, rfl, by decide +kernel, by decide +kernel⟩
/-- whether a sum holds, mark by mark -/
def oddV (val : Str → Bool) (o : List Str × Bool) : Bool := o.1.foldl (fun b m => b != val m) false == o.2
def spOh : Sp := fun vs H Q _ => ∃ (S : Addr → Prop) (o : List Str × Bool) (v : V) (td : Addr) (kvs : List (Key × V)) (val : Str → Bool), vs = [v, .ref td] ∧ Rep S H (sumD o) v ∧ H td = some (.dK kvs) ∧ (∀ m ∈ o.1, valV kvs (Sum.inr m) = some (.bl (val m))) ∧ Q (.bl (oddV val o)) H
theorem bl_eq (x y : Bool) : decide (V.bl x = V.bl y) = (x == y) := by cases x <;> cases y <;> decide
theorem bl_ne (x y : Bool) : (!decide (V.bl x = V.bl y)) = (x != y) := by cases x <;> cases y <;> decide
theorem ok_oh (N : Dn K mg "_law_o_holds" sOh ["one", "truths"]) : FnOk P w K mg base CX0 1 N.f N.fd ["one", "truths"] spOh := by
  refine N.F.ok scOh (fun vs H Q E h => ?_) (fun cdv A outer s H vs Q E hr h => ?_)
  · obtain ⟨S, o, v, td, kvs, val, rfl, _⟩ := h
    rfl
  · obtain ⟨S, o, v, td, kvs, val, rfl, hd, ht, hv, k⟩ := h
    have hu := hu_of hr
    refine ⟨_, pss_cons (ps_set (i := 2) scOh.nd rfl (Or.inl rfl) pe_bl)
      (pss_cons (ps_for PassesOwn.never rfl (pi_list (pe_ix ix_seqA (pv 0) pe_int (fun _ _ => rfl))) (pg_name (i := 3) scOh.nd rfl (Or.inl rfl))
        (pss_one (ps_set (i := 2) scOh.nd rfl (Or.inl rfl) (pe_cmpR op_ne (pv 2) (pe_dget hu (pv 1) (pv 3) (fun _ _ => rfl)) (nomark _)))))
      (pss_one (ps_ret (pe_cmpR op_eq (pv 2) (pe_ix ix_seqA (pv 0) pe_int (fun _ _ => rfl)) (nomark _))))), ?_⟩
    obtain ⟨a, us, rfl, ha, rr⟩ := hd
    obtain ⟨v1, _, rfl, r1, v2, _, rfl, r2, rfl⟩ := rr
    cases (show v2 = .bl o.2 from r2)
    obtain ⟨l, ul, rfl, _, hl, rl⟩ := r1
    have e := strs_vals rl
    subst e
    refine ⟨_, rfl, a, _, 0, .ref l, rfl, rfl, .inr (SqT.of ha), atI_nat (j := 0) rfl, l, rfl, ⟨_, SqL.of hl⟩, for_list (K := K) (a := l) (xs := o.1.map V.str) (fun i σ H' => (∃ o3, σ = [some (.ref a), some (.ref td), some (.bl ((o.1.take i).foldl (fun b m => b != val m) false)), o3]) ∧ H' = H) ⟨⟨_, rfl⟩, rfl⟩ (fun i σ H' _ h => by rw [h.2]; exact SqL.of hl) ?_ ?_⟩
    · rintro i x σ H' hx ⟨⟨o3, rfl⟩, rfl⟩
      rw [List.getElem?_map] at hx
      cases q : o.1[i]? with
      | none => rw [q] at hx; cases hx
      | some m =>
        rw [q] at hx
        cases hx
        refine ⟨_, rfl, _, rfl, _, rfl, td, .bl (val m), rfl, ?_, rfl, ?_⟩
        · rw [← hv m (List.mem_of_getElem? q)]
          exact DGet.k (k := Sum.inr m) ht
        · dsimp only
          rw [bl_ne]
          refine ⟨⟨some (.str m), ?_⟩, rfl⟩
          rw [List.take_add_one, q, List.foldl_append]
          rfl
    · rintro σ H' ⟨⟨o3, rfl⟩, rfl⟩
      rw [List.length_map, List.take_length]
      refine ⟨_, rfl, _, rfl, a, _, 1, .bl o.2, rfl, rfl, .inr (SqT.of ha), atI_nat (j := 1) rfl, rfl, ?_⟩
      dsimp only
      rw [bl_eq]
      exact k
/-! ### _law_o_lots -/
abbrev sOl : Stmt := top 45
abbrev nOl : List Str := ["many", "found", "index", "lot"]
theorem scOl : FnScope nOl ["many"] (defScope sOl) := ⟨rfl, rfl, rfl, by decide +kernel, rfl, by decide +kernel, by decide +kernel⟩
theorem lotsOf_succ {α : Type} (xs : List α) (x : α) : lotsOf (xs ++ [x]) = lotsOf xs ++ (lotsOf xs).map (· ++ [x]) := by
  unfold lotsOf
  rw [List.foldl_append]
  rfl
theorem lotsOf_len {α : Type} (xs : List α) : (lotsOf xs).length = 2 ^ xs.length := by
  suffices h : ∀ (xs : List α) (F : List (List α)), (xs.foldl (fun f x => f ++ f.map (· ++ [x])) F).length = F.length * 2 ^ xs.length by
    have := h xs [[]]
    rw [List.length_cons, List.length_nil, Nat.zero_add, Nat.one_mul] at this
    exact this
  intro xs
  induction xs with
  | nil => intro F; simp
  | cons x xs ih =>
    intro F
    rw [List.foldl_cons, ih, List.length_append, List.length_map, List.length_cons, Nat.pow_succ]
    rw [← Nat.two_mul, Nat.mul_comm 2, Nat.mul_assoc, Nat.mul_comm 2]
theorem lotsOf_mem {α : Type} : ∀ (xs : List α) (F : List (List α)) (n : Nat), (∀ l ∈ F, l.length ≤ n) → ∀ l ∈ xs.foldl (fun f x => f ++ f.map (· ++ [x])) F, l.length ≤ n + xs.length
  | [], F, n, h, l, hl => h l hl
  | x :: xs, F, n, h, l, hl => by
    rw [List.foldl_cons] at hl
    have := lotsOf_mem xs _ (n + 1) (fun l hl => by
      rcases List.mem_append.mp hl with hl | hl
      · have := h l hl
        omega
      · obtain ⟨m, hm, rfl⟩ := List.mem_map.mp hl
        have := h m hm
        rw [List.length_append, List.length_cons, List.length_nil]
        omega) l hl
    rw [List.length_cons]
    omega
def spOl : Sp := fun vs H Q _ => ∃ n : Nat, vs = [.int (n : Nat)] ∧ n ≤ 6 ∧ ∀ H' v, Same H H' → Rep (fun a => H a = none) H' (.lst ((lotsOf (List.range n)).map lotD)) v → Q v H'
theorem ok_ol (B : Bt mg) (N : Dn K mg "_law_o_lots" sOl ["many"]) : FnOk P w K mg base CX0 1 N.f N.fd ["many"] spOl := by
  refine N.F.ok scOl (fun vs H Q E h => ?_) (fun cdv A outer s H vs Q E hr h => ?_)
  · obtain ⟨n, rfl, _⟩ := h
    rfl
  · obtain ⟨n, rfl, hn, k⟩ := h
    refine ⟨_, pss_cons (ps_set (i := 1) scOl.nd rfl (Or.inl rfl) (pe_lst (pa_cons (pe_lst pa_nil) pa_nil)))
      (pss_cons (ps_for PassesOwn.never rfl (pi_range1 (by rfl) B.range (pa_cons (pv 0) pa_nil)) (pg_name (i := 2) scOl.nd rfl (Or.inr rfl))
        (pss_one (ps_expr (pe_bm PySem.F.plainAttrs_list PySem.F.slot_list_extend PySem.F.type_list_extend mt_extend (pv 1) (pa_cons
          (pe_lc (own := [("lot", 3)]) (g := gName 3) (tt := tYes) (te := tOp rCat (tVar 3) (tLst (tCons (tVar 2) tNil))) rfl scOl.nd (pi_list (pv 1)) (blkOk_by (own := [("lot", 3)]) (N := nOl) (sc := defScope sOl) (by decide +kernel))
            (fun _ _ _ _ _ => pg_name (i := 3) scOl.nd rfl (Or.inl rfl)) (fun _ _ _ _ _ => pts_nil) (fun _ _ _ _ _ => pe_op op_cat (pv 3) (pe_lst (pa_cons (pv 2) pa_nil)))) pa_nil)))))
      (pss_one (ps_ret (pv 1)))), ?_⟩
    refine ⟨Nat.zero_le _, fun eA heA => ⟨by show 1 ≤ sizeLine; decide, fun fA hfA => ?_⟩⟩
    have s1 : Same H (upd H eA (.lst [])) := Same.new heA
    have he1 : upd H eA (.lst []) eA = some (.lst []) := upd_same
    generalize upd H eA (.lst []) = H1 at s1 he1 hfA ⊢
    have s2 : Same H1 (upd H1 fA (.lst [.ref eA])) := Same.new hfA
    have hf2 : upd H1 fA (.lst [.ref eA]) fA = some (.lst [.ref eA]) := upd_same
    have he2 := s2 _ _ he1
    have nef : eA ≠ fA := fun z => by rw [z, hfA] at he1; cases he1
    generalize upd H1 fA (.lst [.ref eA]) = H2 at s2 hf2 he2 ⊢
    have fH : H fA = none := s1.free hfA
    refine ⟨_, rfl, _, rfl, by omega, by omega, for_range (lo := 0) (n := n) (fun i σ H' => (∃ o2, σ = [some (.int (n : Nat)), some (.ref fA), o2, none]) ∧ Same H H' ∧ ∃ vs, H' fA = some (.lst vs) ∧ Reps (fun b => H b = none ∧ b ≠ fA) H' ((lotsOf (List.range i)).map lotD) vs)
      ⟨⟨_, rfl⟩, s1.trans s2, _, hf2, .ref eA, [], rfl, ⟨eA, [], rfl, ⟨heA, nef⟩, he2, rfl⟩, rfl⟩ ?_ ?_⟩
    · rintro i σ H' hi ⟨⟨o2, rfl⟩, sm, vs, hf, hvs⟩
      have lvs := hvs.length
      rw [List.length_map, lotsOf_len, List.length_range] at lvs
      have l64 : vs.length ≤ 64 := by
        rw [lvs]
        exact Nat.le_trans (Nat.pow_le_pow_right (by decide) (show i ≤ 6 by omega)) (by decide)
      refine ⟨_, rfl, .inl ⟨rfl, _, SqL.of hf⟩, ?_⟩
      refine ⟨_, rfl, fA, rfl, ⟨_, SqL.of hf⟩, fun D0 hD0 => ?_⟩
      have nDf : D0 ≠ fA := fun z => by rw [z, hf] at hD0; cases hD0
      have f0 : H D0 = none := sm.free hD0
      refine lc_list (K := K) (a := fA) (xs := vs) (fun j H4 => Same H' H4 ∧ ∃ us, H4 D0 = some (.lst us) ∧ Reps (fun b => H b = none ∧ b ≠ fA ∧ b ≠ D0) H4 ((((lotsOf (List.range i)).map (· ++ [i])).take j).map lotD) us) ⟨Same.new hD0, [], upd_same, rfl⟩ (fun j H4 _ h => SqL.of (h.1 _ _ hf)) ?_ ?_
      · rintro j x H4 hx ⟨s4, us, hz, hus⟩
        obtain ⟨dx, hdx, hrx⟩ := (hvs.same s4).get hx
        rw [List.getElem?_map] at hdx
        cases q : (lotsOf (List.range i))[j]? with
        | none => rw [q] at hdx; cases hdx
        | some l =>
          rw [q] at hdx
          cases hdx
          obtain ⟨b, ul, rfl, _, hb, rl⟩ := hrx
          have e := ints_vals rl
          subst e
          have ll : l.length ≤ 6 := by
            have := lotsOf_mem (List.range i) [[]] 0 (fun l hl => by rw [List.mem_singleton.mp hl]; exact Nat.le_refl _) l (List.mem_of_getElem? q)
            rw [List.length_range] at this
            omega
          have lus := hus.length
          rw [List.length_map, List.length_take] at lus
          have hjl := (List.getElem?_eq_some_iff.mp hx).1
          refine ⟨rfl, ?_⟩
          unfold tYes
          refine iteT ?_
          refine ⟨_, rfl, _, rfl, by show 1 ≤ sizeLine; decide, fun c hc => ?_⟩
          have s5 : Same H4 (upd H4 c (.lst [.int ((0 : Int) + (i : Nat))])) := Same.new hc
          have hc5 : upd H4 c (.lst [.int ((0 : Int) + (i : Nat))]) c = some (.lst [.int ((0 : Int) + (i : Nat))]) := upd_same
          generalize upd H4 c (.lst [.int ((0 : Int) + (i : Nat))]) = H5 at s5 hc5 ⊢
          refine ⟨b, c, _, _, rfl, rfl, s5 _ _ hb, hc5, ?_, fun p hp => ?_⟩
          · unfold intsL
            rw [List.length_map]
            exact Nat.le_trans (show l.length + 1 ≤ 7 by omega) (by decide)
          · have s6 : Same H5 (upd H5 p (.lst (intsL l ++ [.int ((0 : Int) + (i : Nat))]))) := Same.new hp
            have hp6 : upd H5 p (.lst (intsL l ++ [.int ((0 : Int) + (i : Nat))])) p = some (.lst (intsL (l ++ [i]))) := by
              rw [upd_same]
              unfold intsL
              rw [List.map_append, Int.zero_add]
              rfl
            generalize upd H5 p (.lst (intsL l ++ [.int ((0 : Int) + (i : Nat))])) = H6 at s6 hp6 ⊢
            have s46 := s5.trans s6
            have hz6 := s46 _ _ hz
            have pf : H p = none := sm.free (s4.free (s5.free hp))
            have npf : p ≠ fA := fun z => by
              have := s4.free (s5.free hp)
              rw [z, hf] at this
              cases this
            have npD : p ≠ D0 := fun z => by
              have := s5.free hp
              rw [z, hz] at this
              cases this
            refine ⟨us, hz6, Nat.lt_of_le_of_lt (show us.length ≤ 64 by omega) (by decide), Same.at (s4.trans s46) hD0, _, upd_same, ?_⟩
            have st : Stay (fun b => H b = none ∧ b ≠ fA ∧ b ≠ D0) H6 (upd H6 D0 (.lst (us ++ [.ref p]))) := stay_upd hz6 (nd_lst fun z => z.2.2 rfl)
            rw [List.take_add_one, List.getElem?_map, q, List.map_append]
            refine Reps.append (Reps.mono (fun _ z => z) st (hus.same s46)) (Reps.one (Rep.mono (fun _ z => z) st ⟨p, _, rfl, ⟨pf, npf, npD⟩, hp6, rep_ints _ _ _⟩))
      · rintro H4 ⟨s4, us, hz, hus⟩
        have e5 : (((lotsOf (List.range i)).map (· ++ [i])).take vs.length) = (lotsOf (List.range i)).map (· ++ [i]) := by
          rw [lvs]
          exact List.take_of_length_le (by rw [List.length_map, lotsOf_len, List.length_range]; exact Nat.le_refl _)
        rw [e5] at hus
        have lus := hus.length
        rw [List.length_map, List.length_map, lotsOf_len, List.length_range] at lus
        have hf4 := s4 _ _ hf
        refine ⟨fA, D0, vs, us, rfl, rfl, hf4, hz, Nat.le_trans (show vs.length + us.length ≤ 128 by omega) (by decide), ?_⟩
        refine ⟨⟨_, rfl⟩, Same.at (sm.trans s4) fH, _, upd_same, ?_⟩
        have st : Stay (fun b => H b = none ∧ b ≠ fA) H4 (upd H4 fA (.lst (vs ++ us))) := stay_upd hf4 (nd_lst fun z => z.2 rfl)
        rw [List.range_succ, lotsOf_succ, List.map_append]
        exact Reps.mono (fun _ z => z) st (Reps.append (hvs.same s4) (Reps.mono (fun _ z => ⟨z.1, z.2.1⟩) (stay_of (Same.refl H4)) hus))
    · rintro σ H' ⟨⟨o2, rfl⟩, sm, vs, hf, hvs⟩
      exact ⟨_, rfl, k H' (.ref fA) sm ⟨fA, vs, rfl, fH, hf, Reps.mono (fun _ z => z.1) (stay_of (Same.refl H')) hvs⟩⟩
end
end Q1
set_option Elab.async false
set_option linter.all false
set_option maxRecDepth 100000
set_option maxHeartbeats 4000000
namespace Q1
open PySem L2 LamX
section
variable {P : Program} {w : World} {K : PySem.W.Frag} {mg : Str → Option Value} {base : Heap}
/-! ### _law_g_rows -/
abbrev sGr : Stmt := top 48
abbrev nGr : List Str := ["many", "found", "turn", "longer", "row"]
theorem scGr : FnScope nGr ["many"] (defScope sGr) := ⟨rfl, rfl, rfl, by decide +kernel, rfl, by decide +kernel, by decide +kernel⟩
def grow (r : List Bool) : List (List Bool) := [r ++ [false], r ++ [true]]
theorem grow_len (l : List (List Bool)) : (l.flatMap grow).length = 2 * l.length := by
  induction l with
  | nil => rfl
  | cons x l ih =>
    rw [List.flatMap_cons, List.length_append, ih, List.length_cons]
    show 2 + _ = _
    omega
theorem rowsM_len : ∀ n, (rowsM n).length = 2 ^ n
  | 0 => rfl
  | n + 1 => by
    show ((rowsM n).flatMap grow).length = _
    rw [grow_len, rowsM_len n, Nat.pow_succ]
    omega
def spGr : Sp := fun vs H Q _ => ∃ n : Nat, vs = [.int (n : Nat)] ∧ n ≤ 6 ∧ ∀ H' v, Same H H' → Rep (fun a => H a = none) H' (.lst ((rowsM n).map rowD)) v → Q v H'
theorem ok_gr (B : Bt mg) (N : Dn K mg "_law_g_rows" sGr ["many"]) : FnOk P w K mg base CX0 1 N.f N.fd ["many"] spGr := by
  refine N.F.ok scGr (fun vs H Q E h => ?_) (fun cdv A outer s H vs Q E hr h => ?_)
  · obtain ⟨n, rfl, _⟩ := h
    rfl
  · obtain ⟨n, rfl, hn, k⟩ := h
    refine ⟨_, pss_cons (ps_set (i := 1) scGr.nd rfl (Or.inl rfl) (pe_lst (pa_cons (pe_lst pa_nil) pa_nil)))
      (pss_cons (ps_for PassesOwn.never rfl (pi_range1 (by rfl) B.range (pa_cons (pv 0) pa_nil)) (pg_name (i := 2) scGr.nd rfl (Or.inl rfl))
        (pss_cons (ps_set (i := 3) scGr.nd rfl (Or.inl rfl) (pe_lst pa_nil))
        (pss_cons (ps_for PassesOwn.never rfl (pi_list (pv 1)) (pg_name (i := 4) scGr.nd rfl (Or.inl rfl))
          (pss_one (ps_expr (pe_bm PySem.F.plainAttrs_list PySem.F.slot_list_extend PySem.F.type_list_extend mt_extend (pv 3) (pa_cons
            (pe_lst (pa_cons (pe_op op_cat (pv 4) (pe_lst (pa_cons pe_bl pa_nil))) (pa_cons (pe_op op_cat (pv 4) (pe_lst (pa_cons pe_bl pa_nil))) pa_nil))) pa_nil)))))
        (pss_one (ps_set (i := 1) scGr.nd rfl (Or.inl rfl) (pv 3))))))
      (pss_one (ps_ret (pv 1)))), ?_⟩
    refine ⟨Nat.zero_le _, fun eA heA => ⟨by show 1 ≤ sizeLine; decide, fun fA hfA => ?_⟩⟩
    have s1 : Same H (upd H eA (.lst [])) := Same.new heA
    have he1 : upd H eA (.lst []) eA = some (.lst []) := upd_same
    generalize upd H eA (.lst []) = H1 at s1 he1 hfA ⊢
    have s2 : Same H1 (upd H1 fA (.lst [.ref eA])) := Same.new hfA
    have hf2 : upd H1 fA (.lst [.ref eA]) fA = some (.lst [.ref eA]) := upd_same
    have he2 := s2 _ _ he1
    generalize upd H1 fA (.lst [.ref eA]) = H2 at s2 hf2 he2 ⊢
    refine ⟨_, rfl, _, rfl, by omega, by omega, for_range (lo := 0) (n := n) (fun i σ H' => (∃ (fA : Addr) (o2 o3 o4 : Option V) (vs : List V), σ = [some (.int (n : Nat)), some (.ref fA), o2, o3, o4] ∧ H fA = none ∧ H' fA = some (.lst vs) ∧ Reps (fun b => H b = none) H' ((rowsM i).map rowD) vs) ∧ Same H H')
      ⟨⟨fA, _, _, _, _, rfl, s1.free hfA, hf2, .ref eA, [], rfl, ⟨eA, [], rfl, heA, he2, rfl⟩, rfl⟩, s1.trans s2⟩ ?_ ?_⟩
    · rintro i σ H' hi ⟨⟨fA, o2, o3, o4, vs, rfl, fH, hf, hvs⟩, sm⟩
      have lvs := hvs.length
      rw [List.length_map, rowsM_len] at lvs
      have l64 : vs.length ≤ 64 := by
        rw [lvs]
        exact Nat.le_trans (Nat.pow_le_pow_right (by decide) (show i ≤ 6 by omega)) (by decide)
      refine ⟨Nat.zero_le _, fun lA hlA => ?_⟩
      have s3 : Same H' (upd H' lA (.lst [])) := Same.new hlA
      have hl3 : upd H' lA (.lst []) lA = some (.lst []) := upd_same
      have nlf : fA ≠ lA := fun z => by rw [← z, hf] at hlA; cases hlA
      have lH : H lA = none := sm.free hlA
      generalize upd H' lA (.lst []) = H3 at s3 hl3 ⊢
      dsimp only
      refine ⟨_, rfl, fA, rfl, ⟨_, SqL.of (s3 _ _ hf)⟩, for_list (K := K) (a := fA) (xs := vs) (fun j σ H4 => (∃ o4, σ = [some (.int (n : Nat)), some (.ref fA), some (.int ((0 : Int) + (i : Nat))), some (.ref lA), o4]) ∧ Same H' H4 ∧ ∃ us, H4 lA = some (.lst us) ∧ Reps (fun b => H b = none ∧ b ≠ lA) H4 ((((rowsM i).take j).flatMap grow).map rowD) us)
        ⟨⟨_, rfl⟩, s3, [], hl3, rfl⟩ (fun j σ H4 _ h => SqL.of (h.2.1 _ _ hf)) ?_ ?_⟩
      · rintro j x σ H4 hx ⟨⟨o4, rfl⟩, s4, us, hz, hus⟩
        obtain ⟨dx, hdx, hrx⟩ := (hvs.same s4).get hx
        rw [List.getElem?_map] at hdx
        cases q : (rowsM i)[j]? with
        | none => rw [q] at hdx; cases hdx
        | some r =>
          rw [q] at hdx
          cases hdx
          obtain ⟨b, ur, rfl, _, hb, rr⟩ := hrx
          have e := bls_vals rr
          subst e
          have lr : r.length ≤ 6 := by
            have := (mem_rows i r).mp (List.mem_of_getElem? q)
            omega
          have lus := hus.length
          rw [List.length_map, grow_len, List.length_take] at lus
          have hjl := (List.getElem?_eq_some_iff.mp hx).1
          refine ⟨_, rfl, .inl ⟨rfl, _, SqL.of hz⟩, ?_⟩
          refine ⟨_, rfl, by show 1 ≤ sizeLine; decide, fun c hc => ?_⟩
          have s5 : Same H4 (upd H4 c (.lst [.bl false])) := Same.new hc
          have hc5 : upd H4 c (.lst [.bl false]) c = some (.lst [.bl false]) := upd_same
          generalize upd H4 c (.lst [.bl false]) = H5 at s5 hc5 ⊢
          refine ⟨b, c, _, _, rfl, rfl, s5 _ _ hb, hc5, ?_, fun p hp => ?_⟩
          · rw [List.length_map]
            exact Nat.le_trans (show r.length + 1 ≤ 7 by omega) (by decide)
          have s6 : Same H5 (upd H5 p (.lst (r.map V.bl ++ [.bl false]))) := Same.new hp
          have hp6 : upd H5 p (.lst (r.map V.bl ++ [.bl false])) p = some (.lst ((r ++ [false]).map V.bl)) := by
            rw [upd_same, List.map_append]
            rfl
          generalize upd H5 p (.lst (r.map V.bl ++ [.bl false])) = H6 at s6 hp6 ⊢
          have s46 := s5.trans s6
          refine ⟨_, rfl, by show 1 ≤ sizeLine; decide, fun c2 hc2 => ?_⟩
          have s7 : Same H6 (upd H6 c2 (.lst [.bl true])) := Same.new hc2
          have hc7 : upd H6 c2 (.lst [.bl true]) c2 = some (.lst [.bl true]) := upd_same
          generalize upd H6 c2 (.lst [.bl true]) = H7 at s7 hc7 ⊢
          have s47 := s46.trans s7
          refine ⟨b, c2, _, _, rfl, rfl, s47 _ _ hb, hc7, ?_, fun p2 hp2 => ?_⟩
          · rw [List.length_map]
            exact Nat.le_trans (show r.length + 1 ≤ 7 by omega) (by decide)
          have s8 : Same H7 (upd H7 p2 (.lst (r.map V.bl ++ [.bl true]))) := Same.new hp2
          have hp8 : upd H7 p2 (.lst (r.map V.bl ++ [.bl true])) p2 = some (.lst ((r ++ [true]).map V.bl)) := by
            rw [upd_same, List.map_append]
            rfl
          generalize upd H7 p2 (.lst (r.map V.bl ++ [.bl true])) = H8 at s8 hp8 ⊢
          have s48 := s47.trans s8
          refine ⟨by show 2 ≤ sizeLine; decide, fun y hy => ?_⟩
          have s9 : Same H8 (upd H8 y (.lst [.ref p, .ref p2])) := Same.new hy
          have hy9 : upd H8 y (.lst [.ref p, .ref p2]) y = some (.lst [.ref p, .ref p2]) := upd_same
          generalize upd H8 y (.lst [.ref p, .ref p2]) = H9 at s9 hy9 ⊢
          have s49 := s48.trans s9
          have hz9 := s49 _ _ hz
          refine ⟨lA, y, us, _, rfl, rfl, hz9, hy9, Nat.le_trans (show us.length + 2 ≤ 200 by omega) (by decide), ⟨_, rfl⟩, Same.at (s4.trans s49) hlA, _, upd_same, ?_⟩
          have pH : H p = none := sm.free (s4.free (s5.free hp))
          have p2H : H p2 = none := sm.free (s4.free (s47.free hp2))
          have npl : p ≠ lA := fun z => by
            have := s5.free hp
            rw [z, hz] at this
            cases this
          have np2l : p2 ≠ lA := fun z => by
            have := s47.free hp2
            rw [z, hz] at this
            cases this
          have st : Stay (fun b => H b = none ∧ b ≠ lA) H9 (upd H9 lA (.lst (us ++ [.ref p, .ref p2]))) := stay_upd hz9 (nd_lst fun z => z.2 rfl)
          rw [List.take_add_one, q, List.flatMap_append, List.map_append]
          refine Reps.append (Reps.mono (fun _ z => z) st (hus.same s49)) (Reps.mono (fun _ z => z) st (ds := [rowD (r ++ [false]), rowD (r ++ [true])]) ?_)
          exact ⟨.ref p, _, rfl, ⟨p, _, rfl, ⟨pH, npl⟩, ((s7.trans s8).trans s9) _ _ hp6, reps_bls _ _ _⟩, .ref p2, _, rfl, ⟨p2, _, rfl, ⟨p2H, np2l⟩, s9 _ _ hp8, reps_bls _ _ _⟩, rfl⟩
      · rintro σ H4 ⟨⟨o4, rfl⟩, s4, us, hz, hus⟩
        have e5 : (rowsM i).take vs.length = rowsM i := by
          rw [lvs]
          exact List.take_of_length_le (by rw [rowsM_len]; exact Nat.le_refl _)
        rw [e5] at hus
        exact ⟨_, rfl, ⟨lA, _, _, _, us, rfl, lH, hz, Reps.mono (fun _ z => z.1) (stay_of (Same.refl H4)) hus⟩, sm.trans s4⟩
    · rintro σ H' ⟨⟨fA, o2, o3, o4, vs, rfl, fH, hf, hvs⟩, sm⟩
      exact ⟨_, rfl, k H' (.ref fA) sm ⟨fA, vs, rfl, fH, hf, hvs⟩⟩
/-! ### _law_o_added -/
abbrev sOa : Stmt := top 44
abbrev nOa : List Str := ["names", "sums", "lot", "odd", "truth", "index", "mark"]
theorem scOa : FnScope nOa ["names", "sums", "lot"] (defScope sOa) := ⟨rfl, rfl, rfl, by decide +kernel, rfl, by decide +kernel, by decide +kernel⟩
/-- a dict of texts whose values are truths -/
def BoolsAt (kvs : List (Key × V)) : Prop := ∀ m v, valV kvs (Sum.inr m) = some v → ∃ b, v = .bl b
theorem BoolsAt.put {kvs : List (Key × V)} {m : Str} {b : Bool} (h : BoolsAt kvs) : BoolsAt (putK kvs (Sum.inr m) (.bl b)) := fun x v e => by
  rw [valV_put] at e
  split at e
  · cases e
    exact ⟨b, rfl⟩
  · exact h x v e
def getB (kvs : List (Key × V)) (m : Str) : Bool := match valV kvs (Sum.inr m) with
  | some (.bl b) => b
  | _ => false
theorem get_bool {kvs : List (Key × V)} (h : BoolsAt kvs) (m : Str) : (valV kvs (Sum.inr m)).getD (.bl false) = .bl (getB kvs m) := by
  unfold getB
  cases e : valV kvs (Sum.inr m) with
  | none => rfl
  | some v =>
    obtain ⟨b, rfl⟩ := h m v e
    rfl
def spOa : Sp := fun vs H Q _ => ∃ (S : Addr → Prop) (lN lS lL : Addr) (names : List Str) (sums : List (List Str × Bool)) (lot : List Nat), vs = [.ref lN, .ref lS, .ref lL] ∧ H lN = some (.lst (names.map V.str)) ∧ Rep S H (.lst (sums.map sumD)) (.ref lS) ∧ H lL = some (.lst (intsL lot)) ∧ (∀ i ∈ lot, i < sums.length) ∧
  names.length ≤ 90 ∧ lot.length ≤ 10 ∧ (∀ o ∈ sums, o.1.length ≤ 20) ∧ ∀ H' v p t, Same H H' → Rep (fun a => H a = none) H' (sumD (names.filter p, t)) v → Q v H'
theorem ok_oa (B : Bt mg) (N : Dn K mg "_law_o_added" sOa ["names", "sums", "lot"]) : FnOk P w K mg base CX0 1 N.f N.fd ["names", "sums", "lot"] spOa := by
  refine N.F.ok scOa (fun vs H Q E h => ?_) (fun cdv A outer s H vs Q E hr h => ?_)
  · obtain ⟨S, lN, lS, lL, names, sums, lot, rfl, _⟩ := h
    rfl
  · obtain ⟨S, lN, lS, lL, names, sums, lot, rfl, hN, hS, hL, hlt, n90, l10, s20, k⟩ := h
    have hu := hu_of hr
    refine ⟨_, pss_cons (ps_asg (pe_tup (pa_cons pe_dnewK (pa_cons pe_bl pa_nil))) (pg_tup rfl (pgs_cons (pg_name (i := 3) scOa.nd rfl (Or.inr rfl)) (pgs_cons (pg_name (i := 4) scOa.nd rfl (Or.inl rfl)) pgs_nil))))
      (pss_cons (ps_for PassesOwn.never rfl (pi_list (pv 2)) (pg_name (i := 5) scOa.nd rfl (Or.inl rfl))
        (pss_cons (ps_set (i := 4) scOa.nd rfl (Or.inl rfl) (pe_cmpR op_ne (pv 4) (pe_ix ix_seqA (pe_ix ix_seqA (pv 1) (pv 5) (fun _ _ => rfl)) pe_int (fun _ _ => rfl)) (nomark _)))
        (pss_one (ps_for PassesOwn.never rfl (pi_list (pe_ix ix_seqA (pe_ix ix_seqA (pv 1) (pv 5) (fun _ _ => rfl)) pe_int (fun _ _ => rfl))) (pg_name (i := 6) scOa.nd rfl (Or.inl rfl))
          (pss_one (ps_dput hu (pv 3) (pv 6) (pe_not (pe_dget2 hu (pv 3) (pv 6) pe_bl ⟨rfl, rfl, rfl, rfl⟩)) rfl))))))
      (pss_one (ps_ret (pe_tup (pa_cons
        (pe_lc (own := [("mark", 6)]) (g := gName 6) (tt := tB (tDGet2 (tVar 3) (tVar 6) (tC (.bl false)))) (te := tVar 6) rfl scOa.nd (pi_list (pv 0)) (blkOk_by (own := [("mark", 6)]) (N := nOa) (sc := defScope sOa) (by decide +kernel))
          (fun _ _ _ _ _ => pg_name (i := 6) scOa.nd rfl (Or.inl rfl)) (fun _ _ _ _ _ => pts_one (pt_val (pe_dget2 hu (pv 3) (pv 6) pe_bl ⟨rfl, rfl, rfl, rfl⟩) (fun _ => rfl))) (fun _ _ _ _ _ => pv 6)) (pa_cons (pv 4) pa_nil)))))), ?_⟩
    obtain ⟨_, vS, e, sS, hS, rS⟩ := hS
    cases e
    have lvS := rS.length
    rw [List.length_map] at lvS
    refine fun dO hdO => ⟨by show 2 ≤ sizeLine; decide, fun t0 ht0 => ?_⟩
    have s1 : Same H (upd H dO (.dK [])) := Same.new hdO
    have hd1 : upd H dO (.dK []) dO = some (.dK []) := upd_same
    generalize upd H dO (.dK []) = H1 at s1 hd1 ht0 ⊢
    have s2 : Same H1 (upd H1 t0 (.tup [.ref dO, .bl false])) := Same.new ht0
    have hd2 := s2 _ _ hd1
    refine ⟨t0, _, rfl, SqT.of upd_same, rfl, ?_⟩
    refine ⟨_, _, rfl, _, _, rfl, rfl, ?_⟩
    generalize upd H1 t0 (.tup [.ref dO, .bl false]) = H2 at s2 hd2 ⊢
    have s02 := s1.trans s2
    refine ⟨_, rfl, lL, rfl, ⟨_, SqL.of (s02 _ _ hL)⟩, for_list (K := K) (a := lL) (xs := intsL lot) (fun i σ H' => (∃ (t : Bool) (o5 o6 : Option V) (kvs : List (Key × V)), σ = [some (.ref lN), some (.ref lS), some (.ref lL), some (.ref dO), some (.bl t), o5, o6] ∧ H' dO = some (.dK kvs) ∧ BoolsAt kvs ∧ kvs.length ≤ i * 20) ∧ Same H H')
      ⟨⟨false, _, _, [], rfl, hd2, (fun m v e => by cases e), Nat.zero_le _⟩, s02⟩ (fun i σ H' _ h => SqL.of (h.2 _ _ hL)) ?_ ?_⟩
    · rintro i x σ H' hx ⟨⟨t, o5, o6, kvs, rfl, hd, hb, hkl⟩, sm⟩
      obtain ⟨c, hci, rfl⟩ : ∃ c : Nat, lot[i]? = some c ∧ x = .int (c : Nat) := by
        unfold intsL at hx
        rw [List.getElem?_map] at hx
        cases e : lot[i]? with
        | none => rw [e] at hx; cases hx
        | some z => rw [e] at hx; exact ⟨z, rfl, (Option.some.inj hx).symm⟩
      have hil := (List.getElem?_eq_some_iff.mp hci).1
      have hcl := hlt c (List.mem_of_getElem? hci)
      obtain ⟨dx, hdx, hrx⟩ := rS.get (List.getElem?_eq_getElem (show c < vS.length by omega))
      rw [List.getElem?_map] at hdx
      cases qo : sums[c]? with
      | none => rw [qo] at hdx; cases hdx
      | some o =>
      rw [qo] at hdx
      cases hdx
      have ol := s20 o (List.mem_of_getElem? qo)
      obtain ⟨a, us, eva, ha, rr⟩ := hrx
      obtain ⟨v1, _, rfl, r1, v2, _, rfl, r2, rfl⟩ := rr
      cases (show v2 = .bl o.2 from r2)
      obtain ⟨l, ul, rfl, _, hl, rl⟩ := r1
      have e := strs_vals rl
      subst e
      have hva : vS[c]? = some (.ref a) := by rw [List.getElem?_eq_getElem (show c < vS.length by omega), eva]
      refine ⟨_, rfl, _, rfl, _, rfl, lS, vS, (c : Nat), .ref a, rfl, rfl, .inl (SqL.of (sm _ _ hS)), atI_nat hva, a, _, 1, .bl o.2, rfl, rfl, .inr (SqT.of (sm _ _ ha)), atI_nat (j := 1) rfl, rfl, ?_⟩
      dsimp only
      rw [bl_ne]
      refine ⟨_, rfl, _, rfl, lS, vS, (c : Nat), .ref a, rfl, rfl, .inl (SqL.of (sm _ _ hS)), atI_nat hva, a, _, 0, .ref l, rfl, rfl, .inr (SqT.of (sm _ _ ha)), atI_nat (j := 0) rfl, l, rfl, ⟨_, SqL.of (sm _ _ hl)⟩, for_list (K := K) (a := l) (xs := o.1.map V.str) (fun j σ H4 => (∃ (o6 : Option V) (kvs : List (Key × V)), σ = [some (.ref lN), some (.ref lS), some (.ref lL), some (.ref dO), some (.bl (t != o.2)), some (.int (c : Nat)), o6] ∧ H4 dO = some (.dK kvs) ∧ BoolsAt kvs ∧ kvs.length ≤ i * 20 + j) ∧ Same H H4)
        ⟨⟨_, kvs, rfl, hd, hb, hkl⟩, sm⟩ (fun j σ H4 _ h => SqL.of (h.2 _ _ hl)) ?_ ?_⟩
      · rintro j y σ H4 hy ⟨⟨o6, kvs, rfl, hd, hb, hkl⟩, sm4⟩
        rw [List.getElem?_map] at hy
        cases qm : o.1[j]? with
        | none => rw [qm] at hy; cases hy
        | some m =>
        rw [qm] at hy
        cases hy
        have hjl := (List.getElem?_eq_some_iff.mp qm).1
        refine ⟨_, rfl, dO, rfl, .inl ⟨_, .inl hd⟩, _, rfl, _, DGet.k (k := Sum.inr m) hd, getB kvs m, get_bool hb m, _, rfl, _, rfl, dO, _, rfl, DPut.k (k := Sum.inr m) hd (Nat.lt_of_le_of_lt (show kvs.length ≤ 1000 by omega) (by decide)), ?_⟩
        have := length_putK kvs (Sum.inr m) (.bl (!getB kvs m))
        exact ⟨⟨_, _, rfl, upd_same, hb.put, by omega⟩, Same.at sm4 hdO⟩
      · rintro σ H4 ⟨⟨o6, kvs, rfl, hd, hb, hkl⟩, sm4⟩
        rw [List.length_map] at hkl
        exact ⟨⟨_, _, _, kvs, rfl, hd, hb, by omega⟩, sm4⟩
    · rintro σ H' ⟨⟨t, o5, o6, kvs, rfl, hd, hb, hkl⟩, sm⟩
      have hN' := sm _ _ hN
      refine ⟨_, rfl, lN, rfl, ⟨_, SqL.of hN'⟩, fun D0 hD0 => ?_⟩
      refine lc_list (K := K) (a := lN) (xs := names.map V.str) (fun j H4 => Same H' H4 ∧ H4 D0 = some (.lst (((names.take j).filter (getB kvs)).map V.str))) ⟨Same.new hD0, upd_same⟩ (fun j H4 _ h => SqL.of (h.1 _ _ hN')) ?_ ?_
      · rintro j y H4 hy ⟨s4, hz⟩
        rw [List.getElem?_map] at hy
        cases qm : names[j]? with
        | none => rw [qm] at hy; cases hy
        | some m =>
        rw [qm] at hy
        cases hy
        have fl := List.length_filter_le (getB kvs) (names.take j)
        rw [List.length_take] at fl
        refine ⟨rfl, _, rfl, dO, rfl, .inl ⟨_, .inl (s4 _ _ hd)⟩, _, rfl, _, DGet.k (k := Sum.inr m) (s4 _ _ hd), getB kvs m, get_bool hb m, ?_⟩
        cases eb : getB kvs m with
        | true =>
          refine iteT ?_
          refine ⟨_, rfl, _, hz, ?_, Same.at s4 hD0, ?_⟩
          · rw [List.length_map]
            exact Nat.lt_of_le_of_lt (show _ ≤ 90 by omega) (by decide)
          · rw [upd_same, List.take_add_one, qm, List.filter_append]
            show some (HO.lst _) = some (HO.lst (((names.take j).filter (getB kvs) ++ [m].filter (getB kvs)).map V.str))
            rw [List.filter_cons_of_pos eb, List.map_append]
            rfl
        | false =>
          refine iteF ⟨s4, ?_⟩
          rw [List.take_add_one, qm, List.filter_append]
          show H4 D0 = some (HO.lst (((names.take j).filter (getB kvs) ++ [m].filter (getB kvs)).map V.str))
          rw [List.filter_cons_of_neg (by rw [eb]; decide), List.filter_nil, List.append_nil]
          exact hz
      · rintro H4 ⟨s4, hz⟩
        rw [List.length_map, List.take_length] at hz
        refine ⟨_, rfl, by show 2 ≤ sizeLine; decide, fun t2 ht2 => ?_⟩
        have s5 : Same H4 (upd H4 t2 (.tup [.ref D0, .bl t])) := Same.new ht2
        refine k _ (.ref t2) (getB kvs) t ((sm.trans s4).trans s5) ⟨t2, _, rfl, upd_same, .ref D0, _, rfl, ⟨D0, _, rfl, sm.free hD0, s5 _ _ hz, reps_strs _ _ _⟩, .bl t, _, rfl, rfl, rfl⟩
end
end Q1
set_option Elab.async false
set_option linter.all false
set_option maxRecDepth 100000
set_option maxHeartbeats 4000000
namespace Q1
open PySem L2 LamX
/-- whether the last mark is this one -/
def tLastI (K : PySem.W.Frag) (tm tn : TE) : TE := tOp rEq (tOp (rSeqA K) tm (tUn (rU fun i => .int (-i)) (tC (.int 1)))) tn
theorem sum_ok2 {o : List Str × Bool} (h : ∀ m ∈ o.1, PyData.strOk m = true) : (sumD o).ok 2 := ⟨oks_strs 0 h, ⟨by simp only [D.ok], trivial⟩⟩
theorem sums_ok2 : ∀ {es : List (List Str × Bool)}, (∀ o ∈ es, ∀ m ∈ o.1, PyData.strOk m = true) → oks 2 (es.map sumD)
  | [], _ => trivial
  | o :: es, h => ⟨sum_ok2 (h o List.mem_cons_self), sums_ok2 fun x hx => h x (List.mem_cons_of_mem _ hx)⟩
theorem eqv_sum (a b : List Str × Bool) : PyData.eqv (sumD a).py (sumD b).py = decide (a = b) := by
  obtain ⟨a1, a2⟩ := a
  obtain ⟨b1, b2⟩ := b
  show (PyData.eqvAll (pys (a1.map D.str)) (pys (b1.map D.str)) && ((a2 == b2) && true)) = _
  rw [eqv_strs, Bool.and_true, Bool.eq_iff_iff, Bool.and_eq_true, decide_eq_true_iff, beq_iff_eq, decide_eq_true_iff, Prod.mk.injEq]
theorem any_sum (o : List Str × Bool) : ∀ es : List (List Str × Bool), ((pys (es.map sumD)).any fun z => PyData.eqv z (sumD o).py) = decide (o ∈ es)
  | [] => by simp [pys]
  | e :: es => by
    show (PyData.eqv (sumD e).py (sumD o).py || (pys (es.map sumD)).any fun z => PyData.eqv z (sumD o).py) = _
    rw [eqv_sum, any_sum o es, Bool.eq_iff_iff, Bool.or_eq_true, decide_eq_true_iff, decide_eq_true_iff, decide_eq_true_iff, List.mem_cons]
    exact ⟨fun h => h.imp (fun z => z.symm) id, fun h => h.imp (fun z => z.symm) id⟩
theorem last_strs {ms : List Str} {z : Str} (h : ms.getLast? = some z) : atI (ms.map V.str) (-1) = some (.str z) := by
  rcases List.eq_nil_or_concat ms with e | ⟨l, x, e⟩
  · rw [e] at h
    cases h
  · rw [List.concat_eq_append] at e
    rw [e, List.getLast?_concat] at h
    cases h
    rw [e, List.map_append]
    exact atI_last _ _
theorem ne_nil_strs {K : PySem.W.Frag} {H : Hp} {l p : Addr} {ms : List Str} (hl : H l = some (.lst (ms.map V.str))) (hp : H p = some (.lst [])) (ok : ∀ m ∈ ms, PyData.strOk m = true) {Q : VK} (k : Q (.bl (!decide (ms = []))) H) : rNeD K (.ref l) (.ref p) H Q := by
  have r1 : Rep (fun _ => True) H (.lst (ms.map D.str)) (.ref l) := ⟨l, _, rfl, trivial, hl, reps_strs _ _ _⟩
  have r2 : Rep (fun _ => True) H (.lst (([] : List Str).map D.str)) (.ref p) := ⟨p, _, rfl, trivial, hp, rfl⟩
  have ok1 : (D.lst (ms.map D.str)).ok 1 := oks_strs 0 ok
  have ok2 : (D.lst (([] : List Str).map D.str)).ok 1 := trivial
  refine ⟨_, _, r1.dp ok1, r2.dp ok2, D.ok_shaped ok1 (by decide), D.ok_shaped ok2 (by decide), ?_⟩
  have e : PyData.eqv (D.lst (ms.map D.str)).py (D.lst (([] : List Str).map D.str)).py = decide (ms = []) := eqv_strs ms []
  rw [e]
  exact k
theorem str_eq (a b : Str) : decide (V.str a = V.str b) = decide (a = b) := by
  rw [Bool.eq_iff_iff, decide_eq_true_iff, decide_eq_true_iff]
  exact ⟨fun h => by injection h, fun h => by rw [h]⟩
theorem last_eq {ms : List Str} {z m : Str} (h : ms.getLast? = some z) : (ms.getLast? == some m) = decide (z = m) := by
  rw [h, Bool.eq_iff_iff, beq_iff_eq, decide_eq_true_iff]
  exact ⟨fun h => Option.some.inj h, fun h => by rw [h]⟩
theorem andV_last {K : PySem.W.Frag} {tm tn : TE} {σ : L2.St} {H : Hp} {l : Addr} {ms : List Str} {m : Str} {Q : VK} (hm : ∀ (H2 : Hp) (R : VK), Same H H2 → R (.ref l) H2 → tm σ H2 R) (hn : ∀ (H2 : Hp) (R : VK), Same H H2 → R (.str m) H2 → tn σ H2 R)
    (hl : H l = some (.lst (ms.map V.str))) (ok : ∀ m ∈ ms, PyData.strOk m = true) (k : ∀ H2, Same H H2 → Q (.bl (ms.getLast? == some m)) H2) : tAndV (tOp (rNeD K) tm (tLst tNil)) (tLastI K tm tn) σ H Q := by
  refine hm H _ (Same.refl _) ⟨Nat.zero_le _, fun p hp => ?_⟩
  have s1 : Same H (upd H p (.lst [])) := Same.new hp
  refine ne_nil_strs (s1 _ _ hl) upd_same ok ⟨_, rfl, ?_⟩
  cases e : ms.getLast? with
  | none =>
    have : ms = [] := List.getLast?_eq_none_iff.mp e
    rw [decide_eq_true this]
    refine iteF ?_
    have := k _ s1
    rw [e] at this
    exact this
  | some z =>
    have ne : ¬ ms = [] := fun q => by rw [q] at e; cases e
    rw [decide_eq_false ne]
    refine iteT ?_
    refine hm _ _ s1 ⟨1, rfl, l, _, -1, .str z, rfl, rfl, .inl (SqL.of (s1 _ _ hl)), last_strs e, ?_⟩
    refine hn _ _ s1 ⟨rfl, ?_⟩
    rw [str_eq, ← last_eq e]
    exact k _ s1
theorem and_last {K : PySem.W.Frag} {tm tn : TE} {σ : L2.St} {H : Hp} {l : Addr} {ms : List Str} {m : Str} {Q : Bool → Hp → Prop} (hm : ∀ (H2 : Hp) (R : VK), Same H H2 → R (.ref l) H2 → tm σ H2 R) (hn : ∀ (H2 : Hp) (R : VK), Same H H2 → R (.str m) H2 → tn σ H2 R)
    (hl : H l = some (.lst (ms.map V.str))) (ok : ∀ m ∈ ms, PyData.strOk m = true) (k : ∀ H2, Same H H2 → Q (ms.getLast? == some m) H2) : tAnd (tTest (tOp (rNeD K) tm (tLst tNil))) (tTest (tLastI K tm tn)) σ H Q := by
  refine hm H _ (Same.refl _) ⟨Nat.zero_le _, fun p hp => ?_⟩
  have s1 : Same H (upd H p (.lst [])) := Same.new hp
  refine ne_nil_strs (s1 _ _ hl) upd_same ok ⟨_, rfl, ?_⟩
  cases e : ms.getLast? with
  | none =>
    have : ms = [] := List.getLast?_eq_none_iff.mp e
    rw [decide_eq_true this]
    refine iteF ?_
    have := k _ s1
    rw [e] at this
    exact this
  | some z =>
    have ne : ¬ ms = [] := fun q => by rw [q] at e; cases e
    rw [decide_eq_false ne]
    refine iteT ?_
    refine hm _ _ s1 ⟨1, rfl, l, _, -1, .str z, rfl, rfl, .inl (SqL.of (s1 _ _ hl)), last_strs e, ?_⟩
    refine hn _ _ s1 ⟨rfl, _, rfl, ?_⟩
    rw [str_eq, ← last_eq e]
    exact k _ s1
theorem filter_snoc {α : Type} (p : α → Bool) (l : List α) (x : α) : (l ++ [x]).filter p = l.filter p ++ (if p x = true then [x] else []) := by
  rw [List.filter_append, List.filter_cons]
  rfl
theorem optAll_get {β : Type} : ∀ {l : List (Option β)} {r : List β}, optAll l = some r → r.length = l.length ∧ ∀ (i : Nat) (x : Option β), l[i]? = some x → ∃ b, x = some b ∧ r[i]? = some b
  | [], r, h => by
    cases h
    exact ⟨rfl, fun i x e => by simp at e⟩
  | none :: _, r, h => by cases h
  | some a :: l, r, h => by
    have h : (optAll l).map (a :: ·) = some r := h
    cases e : optAll l with
    | none => rw [e] at h; cases h
    | some r2 =>
      rw [e] at h
      cases h
      obtain ⟨h1, h2⟩ := optAll_get e
      refine ⟨by rw [List.length_cons, List.length_cons, h1], fun i x hx => ?_⟩
      cases i with
      | zero =>
        cases (show some (some a) = some x from hx)
        exact ⟨a, rfl, rfl⟩
      | succ i => exact h2 i x hx
/-- a sum where it stands -/
theorem sum_at {S : Addr → Prop} {H : Hp} {o : List Str × Bool} {x : V} (h : Rep S H (sumD o) x) : ∃ a l, x = .ref a ∧ H a = some (.tup [.ref l, .bl o.2]) ∧ H l = some (.lst (o.1.map V.str)) := by
  obtain ⟨a, us, rfl, ha, rr⟩ := h
  obtain ⟨v1, _, rfl, r1, v2, _, rfl, r2, rfl⟩ := rr
  cases (show v2 = .bl o.2 from r2)
  obtain ⟨l, ul, rfl, _, hl, rl⟩ := r1
  have e := strs_vals rl
  subst e
  exact ⟨a, l, rfl, ha, hl⟩
section
variable {P : Program} {w : World} {K : PySem.W.Frag} {mg : Str → Option Value} {base : Heap}
/-! ### _law_o_neat_in -/
abbrev sNi : Stmt := top 47
abbrev nNi : List Str := ["names", "every", "lasts", "found", "last", "some", "name", "marks", "truth", "one", "mark"]
theorem scNi : FnScope nNi ["names", "every"] (defScope sNi) := ⟨rfl, rfl, rfl, by decide +kernel, rfl, by decide +kernel, by decide +kernel⟩
abbrev scN1 : Scope := { kind := .function, names := [(".0", .local), ("name", .cell), ("any", .globalImplicit), ("every", .cell)], isGenerator := false, isCoroutine := false }
abbrev scN2 : Scope := { kind := .function, names := [(".0", .local), ("one", .local), ("last", .cell), ("lasts", .cell)], isGenerator := false, isCoroutine := false }
theorem room65 {k : Nat} {A : Around} (r : Room k A) : A.units + 65 < cLine := by have := r.un; omega
def spNi : Sp := fun vs H Q _ => ∃ (S : Addr → Prop) (lN lE : Addr) (names : List Str) (es res : List (List Str × Bool)), vs = [.ref lN, .ref lE] ∧ H lN = some (.lst (names.map V.str)) ∧ Rep S H (.lst (es.map sumD)) (.ref lE) ∧ neatM names es = some res ∧
  names.length ≤ 90 ∧ es.length ≤ 200 ∧ (∀ m ∈ names, PyData.strOk m = true) ∧ (∀ o ∈ es, o.1.length ≤ 20 ∧ ∀ m ∈ o.1, PyData.strOk m = true) ∧ ∀ H' v, Same H H' → Rep (fun _ => True) H' (.lst (res.map sumD)) v → Q v H'
theorem ok_ni (B : Bt mg) (B2 : Bt2 mg) (N : Dn K mg "_law_o_neat_in" sNi ["names", "every"]) : FnOk P w K mg base CX0 1 N.f N.fd ["names", "every"] spNi := by
  refine N.F.ok scNi (fun vs H Q E h => ?_) (fun cdv A outer s H vs Q E hr h => ?_)
  · obtain ⟨S, lN, lE, names, es, res, rfl, _⟩ := h
    rfl
  · obtain ⟨S, lN, lE, names, es, res, rfl, hN, hE, hres, n90, e200, nok, eok, k⟩ := h
    have hu := hu_of hr
    refine ⟨_, pss_cons (ps_if (pt_cmpR (op_inD (room65 hr)) (pe_tup (pa_cons (pe_lst pa_nil) (pa_cons pe_bl pa_nil))) (pv 1) (by rfl))
          (pss_one (ps_ret (pe_lst (pa_cons (pe_tup (pa_cons (pe_lst pa_nil) (pa_cons pe_bl pa_nil))) pa_nil)))) pss_nil)
      (pss_cons (ps_set (i := 2) scNi.nd rfl (Or.inr rfl)
        (pe_lc (own := [("name", 6)]) (g := gName 6) (tt := tB (tCB (rAny K) (tCons (tLc (iList K (tVar 1)) (gTup K 2 (gCons (gName 7) (gCons (gName 8) gNil))) tYes (tAndV (tOp (rNeD K) (tVar 7) (tLst tNil)) (tLastI K (tVar 7) (tVar 6))) [7, 8]) tNil))) (te := tVar 6) rfl scNi.nd (pi_list (pv 0)) (blkOk_by (own := [("name", 6)]) (N := nNi) (sc := defScope sNi) (by decide +kernel))
          (fun _ _ _ _ _ => pg_name (i := 6) scNi.nd (by rfl) (Or.inr (by rfl)))
          (fun _ _ _ _ _ => pts_one (pt_val (pe_callB (cr_any rfl) (by rfl) B2.any PyProof.Rows.boot_any (pa_cons
            (pe_lc (own := [("marks", 7), ("truth", 8)]) (g := gTup K 2 (gCons (gName 7) (gCons (gName 8) gNil))) (tt := tYes) (te := tAndV (tOp (rNeD K) (tVar 7) (tLst tNil)) (tLastI K (tVar 7) (tVar 6))) rfl scNi.nd (pi_list (pv 1)) (blkOk_by (own := [("marks", 7), ("truth", 8)]) (N := nNi) (sc := scN1) (by decide +kernel))
              (fun _ _ _ _ _ => pg_tup (by rfl) (pgs_cons (pg_name (i := 7) scNi.nd (by rfl) (Or.inl (by rfl)) (by exact .inr rfl)) (pgs_cons (pg_name (i := 8) scNi.nd (by rfl) (Or.inl (by rfl)) (by exact .inr rfl)) pgs_nil)))
              (fun _ _ _ _ _ => pts_nil)
              (fun _ _ _ _ _ => pe_and (pe_cmpR (op_neD hr.units) (pv 7) (pe_lst pa_nil) (by rfl)) (pe_one (pe_cmpR op_eq (pe_ix ix_seqA (pv 7) (pe_un un_neg pe_int) (fun _ _ => rfl)) (pv 6) (nomark _))))) pa_nil)) (fun _ => rfl)))
          (fun _ _ _ _ _ => pv 6)))
      (pss_cons (ps_set (i := 3) scNi.nd rfl (Or.inl rfl) (pe_lst pa_nil))
      (pss_cons (ps_for PassesOwn.never rfl (pi_list (pv 2)) (pg_name (i := 4) scNi.nd rfl (Or.inr rfl))
        (pss_cons (ps_setLc (i := 5) (own := [("one", 9)]) (g := gName 9) (tt := tAnd (tTest (tOp (rNeD K) (tOp (rSeqA K) (tVar 9) (tC (.int 0))) (tLst tNil))) (tTest (tLastI K (tOp (rSeqA K) (tVar 9) (tC (.int 0))) (tVar 4)))) (te := tVar 9) (by rfl) scNi.nd rfl rfl (sw_true rfl rfl rfl (by decide +kernel)) (pi_list (pv 1)) (blkOk_by (own := [("one", 9)]) (N := nNi) (sc := defScope sNi) (by decide +kernel))
            (fun _ _ _ _ _ => pg_name (i := 9) scNi.nd rfl (Or.inl rfl))
            (fun _ _ _ _ _ => pts_one (PW.pt (pw_and (pt_cmpR (op_neD hr.units) (pe_ix ix_seqA (pv 9) pe_int (fun _ _ => rfl)) (pe_lst pa_nil) (by rfl)) (pw_and1 (pt_cmpR op_eq (pe_ix ix_seqA (pe_ix ix_seqA (pv 9) pe_int (fun _ _ => rfl)) (pe_un un_neg pe_int) (fun _ _ => rfl)) (pv 4) (nomark _))))))
            (fun _ _ _ _ _ => pv 9))
        (pss_one (ps_expr (pe_bm PySem.F.plainAttrs_list PySem.F.slot_list_append PySem.F.type_list_append mt_append (pv 3) (pa_cons
          (pe_ix ix_list
            (pe_lc (own := [("one", 9)]) (g := gName 9) (tt := tTest (tOp (rEqD K) (tLc (iList K (tOp (rSeqA K) (tVar 9) (tC (.int 0)))) (gName 10) (tTest (tOp (rIn K false) (tVar 10) (tVar 2))) (tVar 10) [10]) (tLst (tCons (tVar 4) tNil)))) (te := tVar 9) rfl scNi.nd (pi_list (pv 5)) (blkOk_by (own := [("one", 9)]) (N := nNi) (sc := defScope sNi) (by decide +kernel))
              (fun _ _ _ _ _ => pg_name (i := 9) scNi.nd rfl (Or.inl rfl))
              (fun _ _ _ _ _ => pts_one (pt_cmpR (op_eqD hr.units)
                (pe_lc (own := [("mark", 10)]) (g := gName 10) (tt := tTest (tOp (rIn K false) (tVar 10) (tVar 2))) (te := tVar 10) rfl scNi.nd (pi_list (pe_ix ix_seqA (pv 9) pe_int (fun _ _ => rfl))) (blkOk_by (own := [("mark", 10)]) (N := nNi) (sc := scN2) (by decide +kernel))
                  (fun _ _ _ _ _ => pg_name (i := 10) scNi.nd rfl (Or.inl rfl)) (fun _ _ _ _ _ => pts_one (pt_cmpR op_in_seq (pv 10) (pv 2) (by rfl))) (fun _ _ _ _ _ => pv 10))
                (pe_lst (pa_cons (pv 4) pa_nil)) (by rfl)))
              (fun _ _ _ _ _ => pv 9))
            pe_int (fun _ _ => rfl)) pa_nil))))))
      (pss_one (ps_ret (pv 3)))))), ?_⟩
    obtain ⟨_, vE, e, sE, hE, rE⟩ := hE.here
    cases e
    have lvE := rE.length
    rw [List.length_map] at lvE
    have hEr : Rep (fun b => S b ∧ H b ≠ none) H (.lst (es.map sumD)) (.ref lE) := ⟨lE, vE, rfl, sE, hE, rE⟩
    have okE : (D.lst (es.map sumD)).ok 3 := sums_ok2 fun o ho => (eok o ho).2
    refine ⟨Nat.zero_le _, fun p1 hp1 => ⟨by show 2 ≤ sizeLine; decide, fun t1 ht1 => ?_⟩⟩
    have s1 : Same H (upd H p1 (.lst [])) := Same.new hp1
    have hq1 : upd H p1 (.lst []) p1 = some (.lst []) := upd_same
    generalize upd H p1 (.lst []) = H1 at s1 hq1 ht1 ⊢
    have s2 : Same H1 (upd H1 t1 (.tup [.ref p1, .bl true])) := Same.new ht1
    have ht2 : upd H1 t1 (.tup [.ref p1, .bl true]) t1 = some (.tup [.ref p1, .bl true]) := upd_same
    have hq2 := s2 _ _ hq1
    generalize upd H1 t1 (.tup [.ref p1, .bl true]) = H2 at s2 ht2 hq2 ⊢
    have s02 := s1.trans s2
    have rt : Rep (fun _ => True) H2 (sumD ([], true)) (.ref t1) := ⟨t1, _, rfl, ht2, .ref p1, _, rfl, ⟨p1, [], rfl, trivial, hq2, rfl⟩, .bl true, _, rfl, rfl, rfl⟩
    have okt : (sumD ([], true)).ok 2 := sum_ok2 fun m hm => by cases hm
    refine ⟨_, rfl, _, _, rt.dp okt, (hEr.same s02).dp okE, D.ok_shaped okt (by decide), D.ok_shaped okE (by decide), _, rfl, ?_⟩
    have ea := any_sum ([], true) es
    rw [ea]
    unfold neatM at hres
    by_cases z : ([], true) ∈ es
    · rw [if_pos z] at hres
      cases hres
      rw [decide_eq_true z]
      refine iteT ?_
      refine ⟨Nat.zero_le _, fun p3 hp3 => ⟨by show 2 ≤ sizeLine; decide, fun t3 ht3 => ⟨by show 1 ≤ sizeLine; decide, fun r3 hr3 => ?_⟩⟩⟩
      have s3 : Same H2 (upd H2 p3 (.lst [])) := Same.new hp3
      have hq3 : upd H2 p3 (.lst []) p3 = some (.lst []) := upd_same
      generalize upd H2 p3 (.lst []) = H3 at s3 hq3 ht3 hr3 ⊢
      have s4 : Same H3 (upd H3 t3 (.tup [.ref p3, .bl true])) := Same.new ht3
      have ht4 : upd H3 t3 (.tup [.ref p3, .bl true]) t3 = some (.tup [.ref p3, .bl true]) := upd_same
      have hq4 := s4 _ _ hq3
      generalize upd H3 t3 (.tup [.ref p3, .bl true]) = H4 at s4 ht4 hq4 hr3 ⊢
      have s5 : Same H4 (upd H4 r3 (.lst [.ref t3])) := Same.new hr3
      exact k _ (.ref r3) (s02.trans (s3.trans (s4.trans s5))) ⟨r3, _, rfl, trivial, upd_same, .ref t3, _, rfl, ⟨t3, _, rfl, s5 _ _ ht4, .ref p3, _, rfl, ⟨p3, [], rfl, trivial, s5 _ _ hq4, rfl⟩, .bl true, _, rfl, rfl, rfl⟩, rfl⟩
    rw [if_neg z] at hres
    rw [decide_eq_false z]
    refine iteF ?_
    have hN2 := s02 _ _ hN
    have hE2 := s02 _ _ hE
    have rE2 := rE.same s02
    refine ⟨_, rfl, lN, rfl, ⟨_, SqL.of hN2⟩, fun lL hlL => ?_⟩
    refine lc_list (K := K) (a := lN) (xs := names.map V.str) (fun i H' => Same H2 H' ∧ H' lL = some (.lst (((lastsM (names.take i) es)).map V.str))) ⟨Same.new hlL, upd_same⟩ (fun i H' _ h => SqL.of (h.1 _ _ hN2)) ?_ ?_
    · rintro i x H' hx ⟨sm', hz⟩
      rw [List.getElem?_map] at hx
      cases qm : names[i]? with
      | none => rw [qm] at hx; cases hx
      | some m =>
      rw [qm] at hx
      cases hx
      have hE' := sm' _ _ hE2
      have et : lastsM (names.take (i + 1)) es = lastsM (names.take i) es ++ (if (es.any fun o => o.1.getLast? == some m) = true then [m] else []) := by
        unfold lastsM
        rw [List.take_add_one, qm, List.filter_append]
        congr 1
        show [m].filter _ = _
        rw [List.filter_cons]
        rfl
      have fl : (lastsM (names.take i) es).length ≤ 90 := by
        have := List.length_filter_le (fun m => es.any fun o => o.1.getLast? == some m) (names.take i)
        rw [List.length_take] at this
        unfold lastsM
        omega
      refine ⟨rfl, _, rfl, lE, rfl, ⟨_, SqL.of hE'⟩, fun D1 hD1 => ?_⟩
      refine lc_list (K := K) (a := lE) (xs := vE) (fun j H4 => Same H' H4 ∧ H4 D1 = some (.lst (((es.take j).map fun o => o.1.getLast? == some m).map V.bl))) ⟨Same.new hD1, upd_same⟩ (fun j H4 _ h => SqL.of (h.1 _ _ hE')) ?_ ?_
      · rintro j y H4 hy ⟨s4, hz4⟩
        obtain ⟨dy, hdy, hry⟩ := (rE2.same (sm'.trans s4)).get hy
        rw [List.getElem?_map] at hdy
        cases qo : es[j]? with
        | none => rw [qo] at hdy; cases hdy
        | some o =>
        rw [qo] at hdy
        cases hdy
        have hjl := (List.getElem?_eq_some_iff.mp qo).1
        obtain ⟨a, l, rfl, ha, hl⟩ := sum_at hry
        refine ⟨a, _, rfl, SqT.of ha, rfl, ?_⟩
        refine ⟨_, _, rfl, _, _, rfl, rfl, ?_⟩
        refine ⟨rfl, ?_⟩
        unfold tYes
        refine iteT ?_
        refine andV_last (l := l) (ms := o.1) (m := m) (fun H5 R _ h => ⟨_, rfl, h⟩) (fun H5 R _ h => ⟨_, rfl, h⟩) hl (eok o (List.mem_of_getElem? qo)).2 fun H5 s5 => ?_
        refine ⟨_, s5 _ _ hz4, ?_, Same.at (s4.trans s5) hD1, ?_⟩
        · rw [List.length_map, List.length_map, List.length_take]
          exact Nat.lt_of_le_of_lt (show min j es.length ≤ 200 by omega) (by decide)
        · rw [upd_same, List.take_add_one, qo, List.map_append, List.map_append]
          rfl
      · rintro H4 ⟨s4, hz4⟩
        rw [lvE, List.take_length] at hz4
        refine ⟨D1, _, rfl, SqL.of hz4, _, rfl, ?_⟩
        have e6 : ((es.map fun o => o.1.getLast? == some m).any id) = es.any fun o => o.1.getLast? == some m := by
          rw [List.any_map]
          rfl
        rw [e6]
        have hzL := s4 _ _ hz
        cases eb : es.any fun o => o.1.getLast? == some m with
        | true =>
          rw [eb, if_pos rfl] at et
          refine iteT ?_
          refine ⟨_, rfl, _, hzL, ?_, Same.at (sm'.trans s4) hlL, ?_⟩
          · rw [List.length_map]
            exact Nat.lt_of_le_of_lt fl (by decide)
          · rw [upd_same, et, List.map_append]
            rfl
        | false =>
          rw [eb, if_neg (by decide), List.append_nil] at et
          refine iteF ⟨sm'.trans s4, ?_⟩
          rw [et]
          exact hzL
    rintro H3 ⟨s3, hL⟩
    rw [List.length_map, List.take_length] at hL
    have s03 := s02.trans s3
    obtain ⟨lres, gres⟩ := optAll_get hres
    rw [List.length_map] at lres
    have lok : ∀ m ∈ lastsM names es, PyData.strOk m = true := fun m hm => nok m (List.mem_filter.mp hm).1
    have l90 : (lastsM names es).length ≤ 90 := Nat.le_trans (List.length_filter_le _ _) n90
    generalize lastsM names es = lasts at hL gres lres lok l90 hres
    refine ⟨Nat.zero_le _, fun lF hlF => ?_⟩
    have s4 : Same H3 (upd H3 lF (.lst [])) := Same.new hlF
    have hF4 : upd H3 lF (.lst []) lF = some (.lst []) := upd_same
    generalize upd H3 lF (.lst []) = H4 at s4 hF4 ⊢
    have s04 := s03.trans s4
    have hL4 := s4 _ _ hL
    have hLF : lL ≠ lF := fun z => by rw [z, hlF] at hL; cases hL
    have fF : H lF = none := s03.free hlF
    have hE4 := s04 _ _ hE
    have rE4 := rE.same s04
    refine ⟨_, rfl, lL, rfl, ⟨_, SqL.of hL4⟩, for_list (K := K) (a := lL) (xs := lasts.map V.str) (fun i σ H' => (∃ o4 o5 : Option V, σ = [some (.ref lN), some (.ref lE), some (.ref lL), some (.ref lF), o4, o5, none, none, none, none, none]) ∧ SameS lF H4 H' ∧ ∃ vs, H' lF = some (.lst vs) ∧ Reps (fun b => S b ∧ H b ≠ none) H' ((res.take i).map sumD) vs)
      ⟨⟨_, _, rfl⟩, SameS.refl _, [], hF4, rfl⟩ (fun i σ H' _ h => SqL.of (h.2.1 _ _ hLF hL4)) ?_ ?_⟩
    · rintro i x σ H' hx ⟨⟨o4, o5, rfl⟩, sS, vs, hF, hvs⟩
      rw [List.getElem?_map] at hx
      cases qm : lasts[i]? with
      | none => rw [qm] at hx; cases hx
      | some last =>
      rw [qm] at hx
      cases hx
      obtain ⟨ob, eob, rob⟩ := gres i _ (by rw [List.getElem?_map, qm]; rfl)
      have hil := (List.getElem?_eq_some_iff.mp qm).1
      have lvs := hvs.length
      rw [List.length_map, List.length_take] at lvs
      have neF : ∀ b, H b ≠ none → b ≠ lF := fun b h z => h (z ▸ fF)
      have sH : Same H H' := fun b o e => sS b o (neF b (by rw [e]; exact fun z => nomatch z)) (s04 b o e)
      have hE' := sH _ _ hE
      have rE' := rE.same sH
      have hL' := sS _ _ hLF hL4
      refine ⟨_, rfl, lE, rfl, ⟨_, SqL.of hE'⟩, fun lS hlS => ?_⟩
      refine lc_list (K := K) (a := lE) (xs := vE) (fun j H5 => Same H' H5 ∧ ∃ us, H5 lS = some (.lst us) ∧ Reps (fun b => S b ∧ H b ≠ none) H5 (((es.take j).filter fun o => o.1.getLast? == some last).map sumD) us) ⟨Same.new hlS, [], upd_same, rfl⟩ (fun j H5 _ h => SqL.of (h.1 _ _ hE')) ?_ ?_
      · rintro j y H5 hy ⟨s5, us, hz, hus⟩
        obtain ⟨dy, hdy, hry⟩ := (rE'.same s5).get hy
        rw [List.getElem?_map] at hdy
        cases qo : es[j]? with
        | none => rw [qo] at hdy; cases hdy
        | some o =>
        rw [qo] at hdy
        cases hdy
        have hjl := (List.getElem?_eq_some_iff.mp qo).1
        have hry2 := hry
        obtain ⟨a, l, rfl, ha, hl⟩ := sum_at hry
        have lus := hus.length
        rw [List.length_map] at lus
        have fl := List.length_filter_le (fun o : List Str × Bool => o.1.getLast? == some last) (es.take j)
        rw [List.length_take] at fl
        refine ⟨rfl, ?_⟩
        refine and_last (l := l) (ms := o.1) (m := last) (fun H6 R s6 h => ⟨_, rfl, a, _, 0, .ref l, rfl, rfl, .inr (SqT.of (s6 _ _ ha)), atI_nat (j := 0) rfl, h⟩) (fun H6 R _ h => ⟨_, rfl, h⟩) hl (eok o (List.mem_of_getElem? qo)).2 fun H6 s6 => ?_
        have hz6 := s6 _ _ hz
        have fS : H lS = none := sH.free hlS
        have ft : (es.take (j + 1)).filter (fun o => o.1.getLast? == some last) = (es.take j).filter (fun o => o.1.getLast? == some last) ++ (if (o.1.getLast? == some last) = true then [o] else []) := by
          rw [List.take_add_one, qo]
          exact filter_snoc (fun o => o.1.getLast? == some last) (es.take j) o
        cases eb : o.1.getLast? == some last with
        | true =>
          refine iteT ?_
          refine ⟨_, rfl, us, hz6, Nat.lt_of_le_of_lt (show us.length ≤ 200 by omega) (by decide), Same.at (s5.trans s6) hlS, _, upd_same, ?_⟩
          have st : Stay (fun b => S b ∧ H b ≠ none) H6 (upd H6 lS (.lst (us ++ [.ref a]))) := stay_upd hz6 (nd_lst fun z => z.2 fS)
          rw [ft, eb, if_pos rfl, List.map_append]
          exact Reps.append (Reps.mono (fun _ z => z) st (hus.same s6)) (Reps.one (Rep.mono (fun _ z => z) st (hry2.same s6)))
        | false =>
          refine iteF ⟨s5.trans s6, us, hz6, ?_⟩
          rw [ft, eb, if_neg (by decide), List.append_nil]
          exact hus.same s6
      rintro H5 ⟨s5, us, hz, hus⟩
      rw [lvE, List.take_length] at hus
      generalize hsome : (es.filter fun o => o.1.getLast? == some last) = some_ at hus
      have smem : ∀ o ∈ some_, o ∈ es := fun o ho => by rw [← hsome] at ho; exact (List.mem_filter.mp ho).1
      have l200 : some_.length ≤ 200 := by rw [← hsome]; exact Nat.le_trans (List.length_filter_le _ _) e200
      have lus := hus.length
      rw [List.length_map] at lus
      have hF5 := s5 _ _ hF
      have hL5 := s5 _ _ hL'
      refine ⟨_, rfl, .inl ⟨rfl, _, SqL.of hF5⟩, ?_⟩
      refine ⟨_, rfl, lS, rfl, ⟨_, SqL.of hz⟩, fun lP hlP => ?_⟩
      have fP : H lP = none := (sH.trans s5).free hlP
      refine lc_list (K := K) (a := lS) (xs := us) (fun j H6 => Same H5 H6 ∧ ∃ ws, H6 lP = some (.lst ws) ∧ Reps (fun b => S b ∧ H b ≠ none) H6 (((some_.take j).filter fun o => o.1.filter (· ∈ lasts) == [last]).map sumD) ws) ⟨Same.new hlP, [], upd_same, rfl⟩ (fun j H6 _ h => SqL.of (h.1 _ _ hz)) ?_ ?_
      · rintro j y H6 hy ⟨s6, ws, hw, hws⟩
        obtain ⟨dy, hdy, hry⟩ := (hus.same s6).get hy
        rw [List.getElem?_map] at hdy
        cases qo : some_[j]? with
        | none => rw [qo] at hdy; cases hdy
        | some o =>
        rw [qo] at hdy
        cases hdy
        have hjl := (List.getElem?_eq_some_iff.mp qo).1
        have oes := eok o (smem o (List.mem_of_getElem? qo))
        have hry2 := hry
        obtain ⟨a, l, rfl, ha, hl⟩ := sum_at hry
        have lws := hws.length
        rw [List.length_map] at lws
        have fl := List.length_filter_le (fun o : List Str × Bool => o.1.filter (· ∈ lasts) == [last]) (some_.take j)
        rw [List.length_take] at fl
        refine ⟨rfl, ?_⟩
        refine ⟨_, rfl, a, _, 0, .ref l, rfl, rfl, .inr (SqT.of ha), atI_nat (j := 0) rfl, l, rfl, ⟨_, SqL.of hl⟩, fun lM hlM => ?_⟩
        have hL6 := s6 _ _ hL5
        refine lc_list (K := K) (a := l) (xs := o.1.map V.str) (fun j H7 => Same H6 H7 ∧ H7 lM = some (.lst (((o.1.take j).filter (· ∈ lasts)).map V.str))) ⟨Same.new hlM, upd_same⟩ (fun j H7 _ h => SqL.of (h.1 _ _ hl)) ?_ ?_
        · rintro j2 y2 H7 hy2 ⟨s7, hz7⟩
          rw [List.getElem?_map] at hy2
          cases qm2 : o.1[j2]? with
          | none => rw [qm2] at hy2; cases hy2
          | some m2 =>
          rw [qm2] at hy2
          cases hy2
          have fl2 := List.length_filter_le (fun x => decide (x ∈ lasts)) (o.1.take j2)
          rw [List.length_take] at fl2
          have ol := oes.1
          refine ⟨rfl, _, rfl, _, rfl, lL, _, rfl, .inl (SqL.of (s7 _ _ hL6)), rfl, flat_strs _, _, rfl, ?_⟩
          show if inV (.str m2) (lasts.map V.str) = true then _ else _
          rw [inV_strs]
          have ft2 : (o.1.take (j2 + 1)).filter (fun x => decide (x ∈ lasts)) = (o.1.take j2).filter (fun x => decide (x ∈ lasts)) ++ (if decide (m2 ∈ lasts) = true then [m2] else []) := by
            rw [List.take_add_one, qm2]
            exact filter_snoc (fun x => decide (x ∈ lasts)) (o.1.take j2) m2
          by_cases hm2 : m2 ∈ lasts
          · rw [decide_eq_true hm2]
            refine iteT ?_
            refine ⟨_, rfl, _, hz7, ?_, Same.at s7 hlM, ?_⟩
            · rw [List.length_map]
              exact Nat.lt_of_le_of_lt (show _ ≤ 20 by omega) (by decide)
            · rw [upd_same, ft2, decide_eq_true hm2, if_pos rfl, List.map_append]
              rfl
          · rw [decide_eq_false hm2]
            refine iteF ⟨s7, ?_⟩
            rw [ft2, decide_eq_false hm2, if_neg (by decide), List.append_nil]
            exact hz7
        · rintro H7 ⟨s7, hz7⟩
          rw [List.length_map, List.take_length] at hz7
          refine ⟨_, rfl, by show 1 ≤ sizeLine; decide, fun lQ hlQ => ?_⟩
          have s8 : Same H7 (upd H7 lQ (.lst [.str last])) := Same.new hlQ
          have hz8 := s8 _ _ hz7
          have hQ8 : upd H7 lQ (.lst [.str last]) lQ = some (.lst ([last].map V.str)) := upd_same
          generalize upd H7 lQ (.lst [.str last]) = H8 at s8 hz8 hQ8 ⊢
          have okA : (D.lst ((o.1.filter (· ∈ lasts)).map D.str)).ok 1 := oks_strs 0 fun m hm => oes.2 m (List.mem_filter.mp hm).1
          have okB : (D.lst ([last].map D.str)).ok 1 := oks_strs 0 fun m hm => by rw [List.mem_singleton.mp hm]; exact lok last (List.mem_of_getElem? qm)
          have rA : Rep (fun _ => True) H8 (.lst ((o.1.filter (· ∈ lasts)).map D.str)) (.ref lM) := ⟨lM, _, rfl, trivial, hz8, reps_strs _ _ _⟩
          have rB : Rep (fun _ => True) H8 (.lst ([last].map D.str)) (.ref lQ) := ⟨lQ, _, rfl, trivial, hQ8, reps_strs _ _ _⟩
          refine ⟨_, _, rA.dp okA, rB.dp okB, D.ok_shaped okA (by decide), D.ok_shaped okB (by decide), _, rfl, ?_⟩
          have ee : PyData.eqv (D.lst ((o.1.filter (· ∈ lasts)).map D.str)).py (D.lst ([last].map D.str)).py = (o.1.filter (· ∈ lasts) == [last]) := by
            refine (eqv_strs (o.1.filter (· ∈ lasts)) [last]).trans ?_
            rw [Bool.eq_iff_iff, decide_eq_true_iff, beq_iff_eq]
          rw [ee]
          have s68 := s7.trans s8
          have hw8 := s68 _ _ hw
          have ft : (some_.take (j + 1)).filter (fun o => o.1.filter (· ∈ lasts) == [last]) = (some_.take j).filter (fun o => o.1.filter (· ∈ lasts) == [last]) ++ (if (o.1.filter (· ∈ lasts) == [last]) = true then [o] else []) := by
            rw [List.take_add_one, qo]
            exact filter_snoc (fun o => o.1.filter (· ∈ lasts) == [last]) (some_.take j) o
          cases eb : o.1.filter (· ∈ lasts) == [last] with
          | true =>
            refine iteT ?_
            refine ⟨_, rfl, ws, hw8, Nat.lt_of_le_of_lt (show ws.length ≤ 200 by omega) (by decide), Same.at (s6.trans s68) hlP, _, upd_same, ?_⟩
            have st : Stay (fun b => S b ∧ H b ≠ none) H8 (upd H8 lP (.lst (ws ++ [.ref a]))) := stay_upd hw8 (nd_lst fun z => z.2 fP)
            rw [ft, eb, if_pos rfl, List.map_append]
            exact Reps.append (Reps.mono (fun _ z => z) st (hws.same s68)) (Reps.one (Rep.mono (fun _ z => z) st (hry2.same s68)))
          | false =>
            refine iteF ⟨s6.trans s68, ws, hw8, ?_⟩
            rw [ft, eb, if_neg (by decide), List.append_nil]
            exact hws.same s68
      · rintro H6 ⟨s6, ws, hw, hws⟩
        rw [lus, List.take_length] at hws
        have epk : (some_.filter fun o => o.1.filter (· ∈ lasts) == [last]).head? = some ob := by
          rw [← hsome]
          exact eob
        obtain ⟨rest, er⟩ : ∃ rest, (some_.filter fun o => o.1.filter (· ∈ lasts) == [last]) = ob :: rest := by
          cases q : some_.filter fun o => o.1.filter (· ∈ lasts) == [last] with
          | nil => rw [q] at epk; cases epk
          | cons b r => rw [q] at epk; cases epk; exact ⟨r, rfl⟩
        rw [er] at hws
        obtain ⟨v0, wr, rfl, h0, _⟩ := hws
        have hF6 := s6 _ _ hF5
        refine ⟨lP, _, 0, v0, rfl, rfl, SqL.of hw, atI_nat (j := 0) rfl, ?_⟩
        refine ⟨lF, _, _, rfl, rfl, hF6, Nat.lt_of_le_of_lt (show vs.length ≤ 100 by omega) (by decide), ?_⟩
        refine ⟨⟨_, _, rfl⟩, (sS.trans (SameS.of (s5.trans s6))).upd, _, upd_same, ?_⟩
        have st : Stay (fun b => S b ∧ H b ≠ none) H6 (upd H6 lF (.lst (vs ++ [v0]))) := stay_upd hF6 (nd_lst fun z => z.2 fF)
        rw [List.take_add_one, rob, List.map_append]
        exact Reps.append (Reps.mono (fun _ z => z) st (hvs.same (s5.trans s6))) (Reps.one (Rep.mono (fun _ z => z) st h0))
    · rintro σ H' ⟨⟨o4, o5, rfl⟩, sS, vs, hF, hvs⟩
      rw [List.length_map, ← lres, List.take_length] at hvs
      have sH : Same H H' := fun b o e => sS b o (fun z => by rw [z, fF] at e; cases e) (s04 b o e)
      exact ⟨_, rfl, k H' (.ref lF) sH ⟨lF, vs, rfl, trivial, hF, Reps.mono (fun _ _ => trivial) (stay_of (Same.refl H')) hvs⟩⟩
end
end Q1
set_option Elab.async false
set_option linter.all false
set_option maxRecDepth 100000
set_option maxHeartbeats 4000000
namespace Q1
open PySem L2 LamX
theorem strict_of {js : List Int} (h : js.Pairwise (· ≤ ·)) (n : js.Nodup) : js.Pairwise (· < ·) := by
  have := h.and n
  exact this.imp fun ⟨a, b⟩ => by omega
theorem reps_map {S : Addr → Prop} {H : Hp} {α : Type} {f : α → D} {g : α → V} : ∀ {l : List α}, (∀ x ∈ l, Rep S H (f x) (g x)) → Reps S H (l.map f) (l.map g)
  | [], _ => rfl
  | x :: l, h => ⟨g x, _, rfl, h x List.mem_cons_self, reps_map fun y hy => h y (List.mem_cons_of_mem _ hy)⟩
section
variable {P : Program} {w : World} {K : PySem.W.Frag} {mg : Str → Option Value} {base : Heap}
/-! ### _law_o_sum -/
abbrev sOs : Stmt := top 42
abbrev nOs : List Str := ["stream", "names", "most", "some", "at"]
theorem scOs : FnScope nOs ["stream", "names"] (defScope sOs) := ⟨rfl, rfl, rfl, by decide +kernel, rfl, by decide +kernel, by decide +kernel⟩
def spOs : Sp := fun vs H Q _ => ∃ (s l : Addr) (n : Nat) (names : List Str), vs = [.ref s, .ref l] ∧ Strm H s n ∧ n + 100 < LIM ∧ H l = some (.lst (names.map V.str)) ∧ l ≠ s ∧ 0 < names.length ∧ names.length ≤ 16 ∧
  ∀ H' v o, SameS s H H' → Rep (fun a => H a = none) H' (sumD o) v → o.1.Sublist names → Strm H' s (n + 100) → Q v H'
theorem ok_os (B : Bt mg) (N : Dn K mg "_law_o_sum" sOs ["stream", "names"]) (NP : Dn K mg "_law_pick" sPick ["well", "some"]) (NM : Dn K mg "_law_mixed" sMixed ["well", "some"]) (ND : Dn K mg "_law_draw" sDraw ["well", "many"]) : FnOk P w K mg base CX0 3 N.f N.fd ["stream", "names"] spOs := by
  have GP : FnOk P w K mg base CX0 2 NP.f NP.fd ["well", "some"] spPick := ok_pick B NP ND
  have GM : FnOk P w K mg base CX0 2 NM.f NM.fd ["well", "some"] (spMixed K) := ok_mixed B NM ND
  have GD : FnOk P w K mg base CX0 1 ND.f ND.fd ["well", "many"] spDraw := ok_draw B ND
  refine N.F.ok scOs (fun vs H Q E h => ?_) (fun cdv A outer s H vs Q E hr h => ?_)
  · obtain ⟨s, l, n, m, rfl, _⟩ := h
    rfl
  · obtain ⟨a, l, n, names, rfl, hs, hn, hl, nla, hn0, hnl, k⟩ := h
    refine ⟨_, pss_cons (ps_set (i := 2) scOs.nd rfl (Or.inl rfl) (pe_call GP hr (by rfl) NP.g NP.F.kp NP.b .nil pass0 (pa_cons (pv 0) (pa_cons (pe_lst (pa_cons pe_int (pa_cons pe_int (pa_cons pe_int (pa_cons pe_int (pa_cons pe_int (pa_cons pe_int (pa_cons (pe_callB call_len_seq (by rfl) B.len boot_len (pa_cons (pv 1) pa_nil)) pa_nil)))))))) pa_nil))))
      (pss_cons (ps_set (i := 3) scOs.nd rfl (Or.inl rfl) (pe_slice sl_list (pe_call GM hr (by rfl) NM.g NM.F.kp NM.b .nil pass0 (pa_cons (pv 0) (pa_cons (pe_listRg rfl (by rfl) B.lst (prg_1 (by rfl) B.range (pe_callB call_len_seq (by rfl) B.len boot_len (pa_cons (pv 1) pa_nil)))) pa_nil))) po_none
          (po_some (pe_call GD (hr.mono (by decide)) (by rfl) ND.g ND.F.kp ND.b .nil pass0 (pa_cons (pv 0) (pa_cons (pe_op op_add (pv 2) pe_int) pa_nil))))))
      (pss_one (ps_ret (pe_tup (pa_cons
        (pe_lc (own := [("at", 4)]) (g := gName 4) (tt := tYes) (te := tOp (rSeqA K) (tVar 1) (tVar 4)) rfl scOs.nd (pi_list (pe_callB cr_sorted (by rfl) B.sorted (by decide +kernel) (pa_cons (pv 3) pa_nil))) (blkOk_by (own := [("at", 4)]) (N := nOs) (sc := defScope sOs) (by decide +kernel)) (fun _ _ _ _ _ => pg_name (i := 4) scOs.nd rfl (Or.inl rfl)) (fun _ _ _ _ _ => pts_nil)
          (fun _ _ _ _ _ => pe_ix ix_seqA (pv 1) (pv 4) (fun _ _ => rfl)))
        (pa_cons (pe_cmpR op_eq (pe_call GD (hr.mono (by decide)) (by rfl) ND.g ND.F.kp ND.b .nil pass0 (pa_cons (pv 0) (pa_cons pe_int pa_nil))) pe_int (nomark _)) pa_nil)))))), ?_⟩
    refine ⟨_, rfl, _, rfl, l, _, rfl, .inl (SqL.of hl), by show 7 ≤ sizeLine; decide, fun p hp => ?_⟩
    obtain ⟨u0, hu0⟩ := hs.lst
    have npa : p ≠ a := fun z => by rw [z, hu0] at hp; cases hp
    refine ⟨a, p, n, _, rfl, hs.same (Same.new hp), by omega, upd_same, npa, by show 0 < 7; decide, by show 7 < 1000000; decide, fun u v hv hs1 => ?_⟩
    have sm1 : SameS a H (upd (upd H p (.lst [V.int 1, .int 2, .int 2, .int 3, .int 3, .int 4, .int ((names.map V.str).length : Nat)])) a (.lst u)) := ((SameS.refl H).new hp).upd
    obtain ⟨m, rfl, hm4⟩ : ∃ m : Nat, v = .int (m : Nat) ∧ m ≤ 16 := by
      have e : v = .int 1 ∨ v = .int 2 ∨ v = .int 3 ∨ v = .int 4 ∨ v = .int ((names.map V.str).length : Nat) := by
        simp only [List.mem_cons, List.not_mem_nil, or_false] at hv
        rcases hv with h | h | h | h | h | h | h <;> simp [h]
      rcases e with rfl | rfl | rfl | rfl | rfl
      · exact ⟨1, rfl, by decide⟩
      · exact ⟨2, rfl, by decide⟩
      · exact ⟨3, rfl, by decide⟩
      · exact ⟨4, rfl, by decide⟩
      · exact ⟨_, rfl, by rw [List.length_map]; exact hnl⟩
    generalize upd (upd H p (.lst [V.int 1, .int 2, .int 2, .int 3, .int 3, .int 4, .int ((names.map V.str).length : Nat)])) a (.lst u) = G1 at sm1 hs1 ⊢
    have hl1 := sm1 l _ nla hl
    refine ⟨_, rfl, _, rfl, l, _, rfl, .inl (SqL.of hl1), _, rfl, ?_, fun q hq => ?_⟩
    · rw [List.length_map]
      exact RgOk.of_le (by omega) (by omega) (by omega) (by omega)
    rw [List.length_map, rgV_ints]
    have hLl : (upTo names.length).length = names.length := by unfold upTo; rw [List.length_map, List.length_range]
    have hLm : ∀ j ∈ upTo names.length, 0 ≤ j ∧ j < (names.length : Int) := fun j hj => by
      unfold upTo at hj
      obtain ⟨i, hi, rfl⟩ := List.mem_map.mp hj
      have := List.mem_range.mp hi
      exact ⟨Int.natCast_nonneg i, Int.ofNat_lt.mpr this⟩
    have hLn : (upTo names.length).Nodup := by
      unfold upTo
      refine List.Pairwise.map _ (fun a b (h : a ≠ b) => ?_) List.nodup_range
      exact fun z => h (Int.ofNat.inj z)
    generalize upTo names.length = L at hLl hLm hLn ⊢
    have smq := sm1.new hq (o := .lst (L.map V.int))
    refine ⟨fun _ => False, a, q, n + 1, L.map V.int, L.map D.int, rfl, hs1.same (Same.new hq), by rw [List.length_map]; omega, .inl (SqL.of upd_same), reps_map fun _ _ => rfl, fun z => z, oks_mem fun d hd => ?_, by rw [List.length_map]; omega, fun H2 rr ys sm2 perm hr0 hr1 hs2 => ?_⟩
    · obtain ⟨x, _, rfl⟩ := List.mem_map.mp hd
      exact ok_int 8 x
    obtain ⟨l2, lp, rfl⟩ := perm_ints perm
    have smr := smq.trans sm2
    rw [List.length_map] at hs2
    obtain ⟨u2, hu2⟩ := hs2.lst
    have nra : rr ≠ a := fun z => by rw [z, hu2] at hr1; cases hr1; obtain ⟨c, x, y, h1, h2⟩ := hs1.same (Same.new hq (o := .lst (L.map V.int))); rw [z, h1] at hr0; cases hr0
    refine ⟨_, rfl, _, rfl, m, 1, rfl, rfl, a, n + 1 + L.length, m + 1, rfl, hs2, by omega, by omega, by omega, fun u3 dk hdk hs3 => ?_⟩
    have hr3 : upd H2 a (.lst u3) rr = some (.lst (l2.map V.int)) := by rw [upd_ne nra]; exact hr1
    have smr3 : SameS a H (upd H2 a (.lst u3)) := smr.upd
    generalize upd H2 a (.lst u3) = H3 at hr3 smr3 hs3 ⊢
    refine ⟨dk, rfl, ?_⟩
    refine ⟨rr, _, rfl, SqL.of hr3, fun q2 hq2 => ?_⟩
    rw [cutV_take, ← List.map_take]
    have sms := smr3.new hq2 (o := .lst ((l2.take dk).map V.int))
    have hs4 := hs3.same (Same.new hq2 (o := .lst ((l2.take dk).map V.int)))
    have hq4 : upd H3 q2 (.lst ((l2.take dk).map V.int)) q2 = some (.lst ((l2.take dk).map V.int)) := upd_same
    generalize upd H3 q2 (.lst ((l2.take dk).map V.int)) = H4 at sms hs4 hq4 ⊢
    refine ⟨_, rfl, q2, l2.take dk, rfl, SqL.of hq4, by rw [List.length_take]; omega, fun ns p2 perm2 rising hp2 => ?_⟩
    have smt := sms.new hp2 (o := .lst (ns.map V.int))
    have hs5 := hs4.same (Same.new hp2 (o := .lst (ns.map V.int)))
    have hpl : upd H4 p2 (.lst (ns.map V.int)) p2 = some (.lst (ns.map V.int)) := upd_same
    obtain ⟨u4, hu4⟩ := hs4.lst
    have np2a : p2 ≠ a := fun z => by rw [z, hu4] at hp2; cases hp2
    generalize upd H4 p2 (.lst (ns.map V.int)) = G2 at smt hs5 hpl ⊢
    have hnsn : ns.Nodup := perm2.symm.nodup (List.Sublist.nodup (List.take_sublist _ _) (lp.symm.nodup hLn))
    have hnsm : ∀ j ∈ ns, 0 ≤ j ∧ j < (names.length : Int) := fun j hj => hLm j (lp.subset (List.mem_of_mem_take (perm2.subset hj)))
    have hnsl : ns.length ≤ 16 := by rw [perm2.length_eq, List.length_take, lp.length_eq]; omega
    have hsub := sub_of (names := names) ns 0 (strict_of rising hnsn) (fun j hj => by have := hnsm j hj; omega)
    rw [List.drop_zero] at hsub
    obtain ⟨u5, hu5⟩ := hs5.lst
    refine ⟨p2, rfl, ⟨_, SqL.of hpl⟩, fun D0 hD => ?_⟩
    have nDa : D0 ≠ a := fun z => by rw [z, hu5] at hD; cases hD
    refine lc_list (K := K) (a := p2) (xs := ns.map V.int) (fun i H' => Same G2 H' ∧ H' D0 = some (.lst (((ns.take i).map fun j => names.getD j.toNat "").map V.str))) ⟨Same.new hD, upd_same⟩ (fun i H' _ h => SqL.of (h.1 _ _ hpl)) ?_ ?_
    · rintro i x H' hx ⟨sm', hts⟩
      rw [List.getElem?_map] at hx
      cases hj : ns[i]? with
      | none => rw [hj] at hx; cases hx
      | some j =>
        rw [hj] at hx
        cases hx
        have hjm := hnsm j (List.mem_of_getElem? hj)
        have hjl : j.toNat < names.length := by omega
        have hlt : i < ns.length := (List.getElem?_eq_some_iff.mp hj).1
        have hlH : H' l = some (.lst (names.map V.str)) := sm' _ _ (smt l _ nla hl)
        have hat : atI (names.map V.str) j = some (.str (names.getD j.toNat "")) := by
          have z : (names.map V.str)[j.toNat]? = some (.str (names.getD j.toNat "")) := by
            rw [List.getElem?_map, List.getD_eq_getElem?_getD, List.getElem?_eq_getElem hjl]
            rfl
          have := atI_nat z
          rwa [Int.toNat_of_nonneg hjm.1] at this
        refine ⟨rfl, ?_⟩
        unfold tYes
        refine iteT ?_
        refine ⟨_, rfl, _, rfl, l, _, j, _, rfl, rfl, .inl (SqL.of hlH), hat, _, hts, ?_, Same.at sm' hD, ?_⟩
        · rw [List.length_map, List.length_map, List.length_take]
          exact Nat.lt_of_le_of_lt (show min i ns.length ≤ 16 by omega) (by decide)
        · rw [upd_same, List.take_add_one, hj, List.map_append, List.map_append]
          rfl
    · rintro H' ⟨sm', hts⟩
      rw [List.length_map, List.take_length] at hts
      refine ⟨_, rfl, a, n + 1 + L.length + 1, 2, rfl, hs5.same sm', by omega, by decide, by decide, fun u6 d6 hd6 hs6 => ⟨rfl, by show 2 ≤ sizeLine; decide, fun t ht => ?_⟩⟩
      have hts6 : upd H' a (.lst u6) D0 = some (.lst ((ns.map fun j => names.getD j.toNat "").map V.str)) := by rw [upd_ne nDa]; exact hts
      have sm6 : SameS a H (upd H' a (.lst u6)) := (smt.trans (SameS.of sm')).upd
      generalize upd H' a (.lst u6) = H6 at hts6 sm6 hs6 ht ⊢
      have s7 : Same H6 (upd H6 t (.tup [.ref D0, .bl (decide (V.int (d6 : Nat) = V.int 0))])) := Same.new ht
      refine k _ (.ref t) (ns.map fun j => names.getD j.toNat "", decide (V.int (d6 : Nat) = V.int 0)) (sm6.trans (SameS.of s7)) ⟨t, _, rfl, upd_same, .ref D0, _, rfl, ⟨D0, _, rfl, smt.none nDa hD, s7 _ _ hts6, reps_strs _ _ _⟩, .bl _, _, rfl, rfl, rfl⟩ hsub ((hs6.mono (by omega)).same s7)
end
end Q1
set_option Elab.async false
set_option linter.all false
set_option maxRecDepth 100000
set_option maxHeartbeats 4000000
namespace Q1
open PySem L2 LamX
theorem ixN_zero {n : Nat} (h : 0 < n) : ixN n 0 = some 0 := by
  unfold ixN
  rw [if_pos (by decide), if_pos (by omega)]
  rfl
section
variable {P : Program} {w : World} {K : PySem.W.Frag} {mg : Str → Option Value} {base : Heap}
/-! ### _law_o_sums -/
abbrev sOss : Stmt := top 43
abbrev nOss : List Str := ["stream", "names", "many", "found", "k"]
theorem scOss : FnScope nOss ["stream", "names", "many"] (defScope sOss) := ⟨rfl, rfl, rfl, by decide +kernel, rfl, by decide +kernel, by decide +kernel⟩
def spOss : Sp := fun vs H Q _ => ∃ (s l : Addr) (n m : Nat) (names : List Str), vs = [.ref s, .ref l, .int (m : Nat)] ∧ Strm H s n ∧ n + 1000 < LIM ∧ H l = some (.lst (names.map V.str)) ∧ l ≠ s ∧ 0 < names.length ∧ names.length ≤ 16 ∧ m ≤ 4 ∧
  ∀ H' v (sums : List (List Str × Bool)), SameS s H H' → Rep (fun a => H a = none) H' (.lst (sums.map sumD)) v → sums.length = m → (∀ o ∈ sums, o.1.Sublist names) → Strm H' s (n + 1000) → Q v H'
theorem ok_oss (B : Bt mg) (N : Dn K mg "_law_o_sums" sOss ["stream", "names", "many"]) (NO : Dn K mg "_law_o_sum" sOs ["stream", "names"]) (NA : Dn K mg "_law_o_added" sOa ["names", "sums", "lot"]) (NP : Dn K mg "_law_pick" sPick ["well", "some"]) (NM : Dn K mg "_law_mixed" sMixed ["well", "some"]) (ND : Dn K mg "_law_draw" sDraw ["well", "many"]) :
    FnOk P w K mg base CX0 4 N.f N.fd ["stream", "names", "many"] spOss := by
  have GO : FnOk P w K mg base CX0 3 NO.f NO.fd ["stream", "names"] spOs := ok_os B NO NP NM ND
  have GA : FnOk P w K mg base CX0 1 NA.f NA.fd ["names", "sums", "lot"] spOa := ok_oa B NA
  have GD : FnOk P w K mg base CX0 1 ND.f ND.fd ["well", "many"] spDraw := ok_draw B ND
  refine N.F.ok scOss (fun vs H Q E h => ?_) (fun cdv A outer s H vs Q E hr h => ?_)
  · obtain ⟨s, l, n, m, names, rfl, _⟩ := h
    rfl
  · obtain ⟨a, l, n, m, names, rfl, hs, hn, hl, nla, hn0, hnl, hm, k⟩ := h
    refine ⟨_, pss_cons (ps_setLc (i := 3) (own := [("k", 4)]) (g := gName 4) (tt := tYes) (te := tCall spOs [] E0 (tCons (tVar 0) (tCons (tVar 1) tNil))) (by rfl) scOss.nd rfl rfl (sw_true rfl rfl rfl (by decide +kernel)) (pi_range1 (by rfl) B.range (pa_cons (pv 2) pa_nil)) (blkOk_by (own := [("k", 4)]) (N := nOss) (sc := defScope sOss) (by decide +kernel))
          (fun _ _ _ _ _ => pg_name (i := 4) scOss.nd rfl (Or.inl rfl)) (fun _ _ _ _ _ => pts_nil) (fun _ _ _ _ _ => pe_call GO (hr.mono (by decide)) (by rfl) NO.g NO.F.kp NO.b .nil pass0 (pa_cons (pv 0) (pa_cons (pv 1) pa_nil))))
      (pss_cons (ps_if (PW.pt (pw_and (pt_cmp (pc_gt (pe_callB call_len_seq (by rfl) B.len boot_len (pa_cons (pv 3) pa_nil)) pe_int) (by rfl)) (pw_and1 (pt_cmpR op_eq (pe_call GD (hr.mono (by decide)) (by rfl) ND.g ND.F.kp ND.b .nil pass0 (pa_cons (pv 0) (pa_cons pe_int pa_nil))) pe_int (nomark _)))))
          (pss_one (ps_asg (pe_call GA (hr.mono (by decide)) (by rfl) NA.g NA.F.kp NA.b .nil pass0 (pa_cons (pv 1) (pa_cons (pv 3) (pa_cons (pe_ifExp (pt_cmp (pc_gt (pe_callB call_len_seq (by rfl) B.len boot_len (pa_cons (pv 3) pa_nil)) pe_int) (by rfl)) (pe_lst (pa_cons pe_int (pa_cons (pe_op op_sub (pe_callB call_len_seq (by rfl) B.len boot_len (pa_cons (pv 3) pa_nil)) pe_int) pa_nil))) (pe_lst (pa_cons pe_int pa_nil))) pa_nil)))) (pg_sub (pv 3) pe_int set_list))) pss_nil)
      (pss_one (ps_ret (pv 3)))), ?_⟩
    obtain ⟨u0, hu0⟩ := hs.lst
    refine ⟨_, rfl, _, rfl, by omega, by omega, fun lF hlF => ?_⟩
    have nFa : lF ≠ a := fun z => by rw [z, hu0] at hlF; cases hlF
    rw [Int.toNat_natCast]
    refine lc_range (lo := 0) (n := m) (fun i H' => SameS a H H' ∧ ∃ (vs : List V) (sums : List (List Str × Bool)), H' lF = some (.lst vs) ∧ Reps (fun b => H b = none ∧ b ≠ lF) H' (sums.map sumD) vs ∧ sums.length = i ∧ (∀ o ∈ sums, o.1.Sublist names) ∧ Strm H' a (n + 100 * i)) ⟨(SameS.refl H).new hlF, [], [], upd_same, rfl, rfl, (fun o ho => by cases ho), hs.same (Same.new hlF)⟩ ?_ ?_
    · rintro i H' hi ⟨sm, vs, sums, hz, hvs, lsum, hsub, hs'⟩
      have lvs := hvs.length
      rw [List.length_map] at lvs
      refine ⟨rfl, ?_⟩
      unfold tYes
      refine iteT ?_
      refine ⟨_, rfl, _, rfl, a, l, n + 100 * i, names, rfl, hs', by omega, sm l _ nla hl, nla, hn0, hnl, fun H2 v o s2 ro ho hs2 => ?_⟩
      obtain ⟨u2, hu2⟩ := hs'.lst
      have hz2 := s2 _ _ nFa hz
      refine ⟨vs, hz2, Nat.lt_of_le_of_lt (show vs.length ≤ 10 by omega) (by decide), (sm.trans s2).at hlF, vs ++ [v], sums ++ [o], upd_same, ?_, by rw [List.length_append, lsum]; rfl, fun x hx => ?_, (hs2.mono (by omega)).at nFa⟩
      · have st : Stay (fun b => H b = none ∧ b ≠ lF) H2 (upd H2 lF (.lst (vs ++ [v]))) := stay_upd hz2 (nd_lst fun z => z.2 rfl)
        have st2 : Stay (fun b => H' b = none) H2 (upd H2 lF (.lst (vs ++ [v]))) := stay_upd hz2 (nd_lst fun z => by rw [hz] at z; cases z)
        rw [List.map_append]
        refine Reps.append (Reps.mono (fun _ z => z) ((s2.stay hu2 (fun z => by rw [hu0] at z; cases z.1)).trans st) hvs) (Reps.one (Rep.mono (fun b hb => ?_) st2 ro))
        refine ⟨sm.none (fun z => ?_) hb, fun z => ?_⟩
        · rw [z, hu2] at hb
          cases hb
        · rw [z, hz] at hb
          cases hb
      · rcases List.mem_append.mp hx with hx | hx
        · exact hsub x hx
        · rw [List.mem_singleton.mp hx]
          exact ho
    · rintro H' ⟨sm, vs, sums, hz, hvs, lsum, hsub, hs'⟩
      have lvs := hvs.length
      rw [List.length_map] at lvs
      obtain ⟨u2, hu2⟩ := hs'.lst
      have fin : ∀ H2, SameS a H H2 → ∀ us (sums2 : List (List Str × Bool)), H2 lF = some (.lst us) → Reps (fun b => H b = none ∧ b ≠ lF) H2 (sums2.map sumD) us → sums2.length = m → (∀ o ∈ sums2, o.1.Sublist names) → Strm H2 a (n + 1000) → Q (.ref lF) H2 := fun H2 s2 us sums2 hz2 hus l2 h2 hs2 =>
        k H2 (.ref lF) sums2 s2 ⟨lF, us, rfl, hlF, hz2, Reps.mono (fun _ z => z.1) (stay_of (Same.refl H2)) hus⟩ l2 h2 hs2
      refine ⟨_, rfl, lF, _, rfl, .inl (SqL.of hz), _, _, rfl, rfl, _, rfl, ?_⟩
      refine ite2 (fun h => ?_) (fun h => ?_)
      · have hlen : 1 < vs.length := by
          have h : decide ((1 : Int) < ((vs.length : Nat) : Int)) = true := h
          have := of_decide_eq_true h
          omega
        refine ⟨_, rfl, a, n + 100 * m, 4, rfl, hs', by omega, by decide, by decide, fun u3 d3 hd3 hs3 => ⟨rfl, _, rfl, ?_⟩⟩
        have s3 : SameS a H' (upd H' a (.lst u3)) := (SameS.refl H').upd
        have hz3 := s3 _ _ nFa hz
        have hvs3 : Reps (fun b => H b = none ∧ b ≠ lF) (upd H' a (.lst u3)) (sums.map sumD) vs := Reps.mono (fun _ z => z) (s3.stay hu2 (fun z => by rw [hu0] at z; cases z.1)) hvs
        generalize upd H' a (.lst u3) = H3 at s3 hz3 hvs3 hs3 ⊢
        obtain ⟨u3b, hu3⟩ := hs3.lst
        refine ite2 (fun _ => ?_) (fun _ => ⟨_, rfl, fin H3 (sm.trans s3) vs sums hz3 hvs3 lsum hsub (hs3.mono (by omega))⟩)
        have key : ∀ H4 (lL : Addr) (lot : List Nat), Same H3 H4 → H4 lL = some (.lst (intsL lot)) → (∀ i ∈ lot, i < sums.length) → lot.length ≤ 10 → ∀ R : VK, (∀ v H5, (∃ p xs k j, V.ref lF = .ref p ∧ V.int 0 = .int k ∧ H5 p = some (.lst xs) ∧ ixN xs.length k = some j ∧ Q (.ref lF) (upd H5 p (.lst (xs.set j v)))) → R v H5) → spOa [.ref l, .ref lF, .ref lL] H4 R E0 := fun H4 lL lot s4 hL hlot h10 R hR => by
          refine ⟨fun b => H b = none ∨ b = lF, l, lF, lL, names, sums, lot, rfl, s4 _ _ (s3 _ _ nla (sm _ _ nla hl)), ⟨lF, vs, rfl, .inr rfl, s4 _ _ hz3, Reps.mono (fun _ z => .inl z.1) (stay_of s4) hvs3⟩, hL, hlot, by omega, h10, fun o ho => Nat.le_trans (hsub o ho).length_le (by omega), fun H5 v p t s5 rv => ?_⟩
          have hz5 := s5 _ _ (s4 _ _ hz3)
          refine hR _ _ ⟨lF, vs, 0, 0, rfl, rfl, hz5, ?_, ?_⟩
          · exact ixN_zero (by omega)
          obtain ⟨v0, vr, rfl⟩ : ∃ v0 vr, vs = v0 :: vr := by
            cases vs with
            | nil => simp at hlen
            | cons v0 vr => exact ⟨v0, vr, rfl⟩
          obtain ⟨o0, sr, rfl⟩ : ∃ o0 sr, sums = o0 :: sr := by
            cases sums with
            | nil => simp at lvs
            | cons v0 vr => exact ⟨v0, vr, rfl⟩
          obtain ⟨_, _, e, _, hvr⟩ := hvs3
          cases e
          have nFa5 : Strm H5 a (n + 1000) := ((hs3.same s4).same s5).mono (by omega)
          have st : Stay (fun b => H b = none ∧ b ≠ lF) H5 (upd H5 lF (.lst (v :: vr))) := stay_upd hz5 (nd_lst fun z => z.2 rfl)
          have st2 : Stay (fun b => H4 b = none) H5 (upd H5 lF (.lst (v :: vr))) := stay_upd hz5 (nd_lst fun z => by rw [s4 _ _ hz3] at z; cases z)
          obtain ⟨u4, hu4⟩ := (hs3.same s4).lst
          refine fin _ (((sm.trans s3).trans (SameS.of (s4.trans s5))).at hlF) (v :: vr) ((names.filter p, t) :: sr) upd_same ⟨v, vr, rfl, Rep.mono (fun b hb => ?_) st2 rv, Reps.mono (fun _ z => z) (((stay_of s4).trans (stay_of s5)).trans st) hvr⟩ lsum (fun o ho => ?_) (nFa5.at nFa)
          · have hb : H4 b = none := hb
            refine ⟨(sm.trans (s3.trans (SameS.of s4))).none (fun z => ?_) hb, fun z => ?_⟩
            · rw [z, hu4] at hb
              cases hb
            · rw [z, s4 _ _ hz3] at hb
              cases hb
          · rcases List.mem_cons.mp ho with rfl | ho
            · exact List.filter_sublist
            · exact hsub o (List.mem_cons_of_mem _ ho)
        refine ⟨_, rfl, _, rfl, _, rfl, lF, _, rfl, .inl (SqL.of hz3), _, _, rfl, rfl, _, rfl, ?_⟩
        refine ite2 (fun h2 => ?_) (fun h2 => ?_)
        · have hlen2 : 2 < vs.length := by
            have h2 : decide ((2 : Int) < ((vs.length : Nat) : Int)) = true := h2
            have := of_decide_eq_true h2
            omega
          refine ⟨_, rfl, lF, _, rfl, .inl (SqL.of hz3), _, _, rfl, rfl, by show 2 ≤ sizeLine; decide, fun lL hlL => ?_⟩
          dsimp only [tNil]
          refine key _ lL [1, vs.length - 1] (Same.new hlL) ?_ (fun i hi => ?_) (by show 2 ≤ 10; decide) _ (fun v H5 h => ?_)
          · have e : ((vs.length : Nat) : Int) - 1 = ((vs.length - 1 : Nat) : Int) := by omega
            rw [upd_same, e]
            rfl
          · rcases List.mem_cons.mp hi with e | hi
            · rw [e]; omega
            · rw [List.mem_singleton.mp hi]; omega
          · obtain ⟨p, xs, k, j, e1, e2, h3, h4, h5⟩ := h
            exact ⟨_, rfl, p, xs, k, j, e1, e2, h3, h4, _, rfl, h5⟩
        · refine ⟨by show 1 ≤ sizeLine; decide, fun lL hlL => ?_⟩
          dsimp only [tNil]
          refine key _ lL [1] (Same.new hlL) upd_same (fun i hi => by rw [List.mem_singleton.mp hi]; omega) (by show 1 ≤ 10; decide) _ (fun v H5 h => ?_)
          obtain ⟨p, xs, k, j, e1, e2, h3, h4, h5⟩ := h
          exact ⟨_, rfl, p, xs, k, j, e1, e2, h3, h4, _, rfl, h5⟩
      · exact iteF ⟨_, rfl, fin H' sm vs sums hz hvs lsum hsub (hs'.mono (by omega))⟩
end
end Q1
set_option Elab.async false
set_option linter.all false
set_option maxRecDepth 100000
set_option maxHeartbeats 4000000
namespace Q1
open PySem L2 LamX
/-! ### a list made turn by turn, while the stream goes on -/
structure PvS (a : Addr) (H1 : Hp) (D0 : Addr) (n c : Nat) (Pd : Nat → D → Prop) (i : Nat) (H' : Hp) : Prop where
  sm : SameS a H1 H'
  ex : ∃ (vs : List V) (ds : List D), H' D0 = some (.lst vs) ∧ Reps (fun b => H1 b = none ∧ b ≠ D0) H' ds vs ∧ ds.length = i ∧ (∀ (j : Nat) (d : D), ds[j]? = some d → Pd j d)
  st : Strm H' a (n + c * i)
theorem pvs_zero {a : Addr} {H1 : Hp} {D0 : Addr} {n c : Nat} {Pd : Nat → D → Prop} (hs : Strm H1 a n) (hD : H1 D0 = none) : PvS a H1 D0 n c Pd 0 (upd H1 D0 (.lst [])) :=
  ⟨(SameS.refl H1).new hD, ⟨[], [], upd_same, rfl, rfl, fun j d e => by simp at e⟩, hs.same (Same.new hD)⟩
theorem pvs_step {a : Addr} {H1 : Hp} {D0 : Addr} {n c i : Nat} {Pd : Nat → D → Prop} {H' H4 : Hp} {d : D} {y : V} (hs : Strm H1 a n) (hD : H1 D0 = none) (hi : i ≤ 1000) (p : PvS a H1 D0 n c Pd i H') (s4 : SameS a H' H4) (r : Rep (fun b => H' b = none) H4 d y) (hp : Pd i d) (st : Strm H4 a (n + c * (i + 1))) :
    ∃ acc, H4 D0 = some (.lst acc) ∧ acc.length < sizeLine ∧ PvS a H1 D0 n c Pd (i + 1) (upd H4 D0 (.lst (acc ++ [y]))) := by
  obtain ⟨u0, hu0⟩ := hs.lst
  obtain ⟨u1, hu1⟩ := p.st.lst
  have nDa : D0 ≠ a := fun z => by rw [z, hu0] at hD; cases hD
  obtain ⟨vs, ds, hz, hvs, ld, hpd⟩ := p.ex
  have hz4 := s4 _ _ nDa hz
  have lvs := hvs.length
  refine ⟨vs, hz4, Nat.lt_of_le_of_lt (show vs.length ≤ 1000 by omega) (by decide), ⟨(p.sm.trans s4).at hD, ⟨vs ++ [y], ds ++ [d], upd_same, ?_, by rw [List.length_append, ld]; rfl, fun j x e => ?_⟩, st.at nDa⟩⟩
  · have st1 : Stay (fun b => H1 b = none ∧ b ≠ D0) H4 (upd H4 D0 (.lst (vs ++ [y]))) := stay_upd hz4 (nd_lst fun z => z.2 rfl)
    have st2 : Stay (fun b => H' b = none) H4 (upd H4 D0 (.lst (vs ++ [y]))) := stay_upd hz4 (nd_lst fun z => by rw [hz] at z; cases z)
    refine Reps.append (Reps.mono (fun _ z => z) ((s4.stay hu1 (fun z => by rw [hu0] at z; cases z.1)).trans st1) hvs) (Reps.one (Rep.mono (fun b hb => ?_) st2 r))
    refine ⟨p.sm.none (fun z => ?_) hb, fun z => ?_⟩
    · rw [z, hu1] at hb
      cases hb
    · rw [z, hz] at hb
      cases hb
  · by_cases z : j < ds.length
    · rw [List.getElem?_append_left z] at e
      exact hpd j x e
    · rw [List.getElem?_append_right (by omega)] at e
      have : j - ds.length = 0 := by
        cases q : j - ds.length with
        | zero => rfl
        | succ k => rw [q] at e; simp at e
      rw [this] at e
      cases e
      rw [show j = i by omega]
      exact hp
theorem pvs_end {a : Addr} {H1 : Hp} {D0 : Addr} {n c i : Nat} {Pd : Nat → D → Prop} {H' : Hp} (hD : H1 D0 = none) (p : PvS a H1 D0 n c Pd i H') : ∃ ds, Rep (fun b => H1 b = none) H' (.lst ds) (.ref D0) ∧ ds.length = i ∧ ∀ (j : Nat) (d : D), ds[j]? = some d → Pd j d := by
  obtain ⟨vs, ds, hz, hvs, ld, hpd⟩ := p.ex
  exact ⟨ds, ⟨D0, vs, rfl, hD, hz, Reps.mono (fun _ z => z.1) (stay_of (Same.refl H')) hvs⟩, ld, hpd⟩
theorem choose_list {α : Type} {f : α → D} {p : Nat → α → Prop} : ∀ {ds : List D} {k : Nat}, (∀ (j : Nat) (d : D), ds[j]? = some d → ∃ x, d = f x ∧ p (k + j) x) → ∃ xs : List α, ds = xs.map f ∧ ∀ (j : Nat) (x : α), xs[j]? = some x → p (k + j) x
  | [], _, _ => ⟨[], rfl, fun j x e => by simp at e⟩
  | d :: ds, k, h => by
    obtain ⟨x, rfl, hx⟩ := h 0 d rfl
    obtain ⟨xs, e, hxs⟩ := choose_list (ds := ds) (k := k + 1) fun j y hy => by
      obtain ⟨z, e, hz⟩ := h (j + 1) y hy
      exact ⟨z, e, by rw [show k + 1 + j = k + (j + 1) by omega]; exact hz⟩
    refine ⟨x :: xs, by rw [e]; rfl, fun j y hy => ?_⟩
    cases j with
    | zero =>
      cases (show some x = some y from hy)
      exact hx
    | succ j =>
      have := hxs j y hy
      rw [show k + 1 + j = k + (j + 1) by omega] at this
      exact this
def hndD (l : Str × Str) : D := .tup [.str l.1, .str l.2]
def clauseD (c : List (Str × Bool)) : D := .lst (c.map litD)
section
variable {P : Program} {w : World} {K : PySem.W.Frag} {mg : Str → Option Value} {base : Heap}
/-! ### _law_g_clause -/
abbrev sGc : Stmt := top 49
abbrev nGc : List Str := ["well", "marks", "most", "some", "mark"]
theorem scGc : FnScope nGc ["well", "marks", "most"] (defScope sGc) := ⟨rfl, rfl, rfl, by decide +kernel, rfl, by decide +kernel, by decide +kernel⟩
def spGc : Sp := fun vs H Q _ => ∃ (s l : Addr) (n : Nat) (marks : List Str), vs = [.ref s, .ref l, .int 3] ∧ Strm H s n ∧ n + 100 < LIM ∧ H l = some (.lst (marks.map V.str)) ∧ l ≠ s ∧ marks.length ≤ 16 ∧ (∀ m ∈ marks, PyData.strOk m = true) ∧
  ∀ H' v (c : List (Str × Bool)), SameS s H H' → Rep (fun a => H a = none) H' (clauseD c) v → (c.map Prod.fst).Sublist marks → Strm H' s (n + 100) → Q v H'
theorem ok_gc (B : Bt mg) (N : Dn K mg "_law_g_clause" sGc ["well", "marks", "most"]) (NM : Dn K mg "_law_mixed" sMixed ["well", "some"]) (ND : Dn K mg "_law_draw" sDraw ["well", "many"]) : FnOk P w K mg base CX0 3 N.f N.fd ["well", "marks", "most"] spGc := by
  have GM : FnOk P w K mg base CX0 2 NM.f NM.fd ["well", "some"] (spMixed K) := ok_mixed B NM ND
  have GD : FnOk P w K mg base CX0 1 ND.f ND.fd ["well", "many"] spDraw := ok_draw B ND
  refine N.F.ok scGc (fun vs H Q E h => ?_) (fun cdv A outer s H vs Q E hr h => ?_)
  · obtain ⟨s, l, n, m, rfl, _⟩ := h
    rfl
  · obtain ⟨a, l, n, marks, rfl, hs, hn, hl, nla, hml, hok, k⟩ := h
    refine ⟨_, pss_cons (ps_set (i := 3) scGc.nd rfl (Or.inr rfl) (pe_slice sl_list (pe_call GM hr (by rfl) NM.g NM.F.kp NM.b .nil pass0 (pa_cons (pv 0) (pa_cons (pv 1) pa_nil))) po_none
          (po_some (pe_op op_add pe_int (pe_call GD (hr.mono (by decide)) (by rfl) ND.g ND.F.kp ND.b .nil pass0 (pa_cons (pv 0) (pa_cons (pv 2) pa_nil)))))))
      (pss_one (ps_ret (pe_lc (own := [("mark", 4)]) (g := gName 4) (tt := tTest (tOp (rIn K false) (tVar 4) (tVar 3))) (te := tTup (tCons (tVar 4) (tCons (tOp rEq (tCall spDraw [] E0 (tCons (tVar 0) (tCons (tC (.int 2)) tNil))) (tC (.int 0))) tNil))) rfl scGc.nd (pi_list (pv 1)) (blkOk_by (own := [("mark", 4)]) (N := nGc) (sc := defScope sGc) (by decide +kernel))
          (fun _ _ _ _ _ => pg_name (i := 4) scGc.nd rfl (Or.inl rfl)) (fun _ _ _ _ _ => pts_one (pt_cmpR op_in_seq (pv 4) (pv 3) (by rfl)))
          (fun _ _ _ _ _ => pe_tup (pa_cons (pv 4) (pa_cons (pe_cmpR op_eq (pe_call GD (hr.mono (by decide)) (by rfl) ND.g ND.F.kp ND.b .nil pass0 (pa_cons (pv 0) (pa_cons pe_int pa_nil))) pe_int (nomark _)) pa_nil)))))), ?_⟩
    obtain ⟨u0, hu0⟩ := hs.lst
    refine ⟨_, rfl, _, rfl, fun _ => False, a, l, n, marks.map V.str, marks.map D.str, rfl, hs, by rw [List.length_map]; omega, .inl (SqL.of hl), reps_strs _ _ _, fun z => z, oks_strs 8 hok, by rw [List.length_map]; omega, fun H1 r ys sm1 perm hr0 hr1 hs1 => ?_⟩
    obtain ⟨L, lp, rfl⟩ := perm_strs perm
    rw [List.length_map] at hs1
    have nra : r ≠ a := fun z => by rw [z, hu0] at hr0; cases hr0
    refine ⟨_, rfl, _, rfl, a, n + marks.length, 3, rfl, hs1, by omega, by decide, by decide, fun u d hd hs2 => ⟨1, (d : Nat), rfl, rfl, ?_⟩⟩
    have sm2 : SameS a H (upd H1 a (.lst u)) := sm1.upd
    have hr2 : upd H1 a (.lst u) r = some (.lst (L.map V.str)) := by rw [upd_ne nra]; exact hr1
    generalize upd H1 a (.lst u) = H2 at sm2 hr2 hs2 ⊢
    refine ⟨_, rfl, r, _, rfl, SqL.of hr2, fun q hq => ?_⟩
    rw [show (1 : Int) + ((d : Nat) : Int) = ((1 + d : Nat) : Int) by omega, cutV_take, ← List.map_take]
    have s3 : Same H2 (upd H2 q (.lst ((L.take (1 + d)).map V.str))) := Same.new hq
    have hq3 : upd H2 q (.lst ((L.take (1 + d)).map V.str)) q = some (.lst ((L.take (1 + d)).map V.str)) := upd_same
    have hs3 := hs2.same s3
    have sm3 := sm2.trans (SameS.of s3)
    generalize upd H2 q (.lst ((L.take (1 + d)).map V.str)) = H3 at s3 hq3 hs3 sm3 ⊢
    obtain ⟨u3, hu3⟩ := hs3.lst
    have nqa : q ≠ a := fun z => by
      obtain ⟨u2, hu2⟩ := hs2.lst
      rw [z, hu2] at hq
      cases hq
    have hl3 := sm3 _ _ nla hl
    refine ⟨_, rfl, l, rfl, ⟨_, SqL.of hl3⟩, fun D0 hD0 => ?_⟩
    have nDa : D0 ≠ a := fun z => by rw [z, hu3] at hD0; cases hD0
    refine lc_list (K := K) (a := l) (xs := marks.map V.str) (fun i H' => SameS a H3 H' ∧ ∃ (vs : List V) (c : List (Str × Bool)), H' D0 = some (.lst vs) ∧ Reps (fun _ => False) H' (c.map litD) vs ∧ c.map Prod.fst = (marks.take i).filter (fun m => decide (m ∈ L.take (1 + d))) ∧ Strm H' a (n + marks.length + 1 + i)) ⟨(SameS.refl H3).new hD0, [], [], upd_same, rfl, rfl, hs3.same (Same.new hD0)⟩ (fun i H' _ h => SqL.of (h.1 _ _ nla hl3)) ?_ ?_
    · rintro i x H' hx ⟨sm', vs, c, hz, hvs, hc, hs'⟩
      rw [List.getElem?_map] at hx
      cases qm : marks[i]? with
      | none => rw [qm] at hx; cases hx
      | some m =>
      rw [qm] at hx
      cases hx
      have hil := (List.getElem?_eq_some_iff.mp qm).1
      have ft : (marks.take (i + 1)).filter (fun m => decide (m ∈ L.take (1 + d))) = (marks.take i).filter (fun m => decide (m ∈ L.take (1 + d))) ++ (if decide (m ∈ L.take (1 + d)) = true then [m] else []) := by
        rw [List.take_add_one, qm]
        exact filter_snoc (fun m => decide (m ∈ L.take (1 + d))) (marks.take i) m
      have lvs := hvs.length
      have lc := congrArg List.length hc
      rw [List.length_map] at lc lvs
      have fl := List.length_filter_le (fun m => decide (m ∈ L.take (1 + d))) (marks.take i)
      rw [List.length_take] at fl
      obtain ⟨u4, hu4⟩ := hs'.lst
      refine ⟨rfl, _, rfl, _, rfl, q, _, rfl, .inl (SqL.of (sm' _ _ nqa hq3)), rfl, flat_strs _, _, rfl, ?_⟩
      show if inV (.str m) ((L.take (1 + d)).map V.str) = true then _ else _
      rw [inV_strs]
      by_cases hm : m ∈ L.take (1 + d)
      · rw [decide_eq_true hm]
        rw [decide_eq_true hm, if_pos rfl] at ft
        refine iteT ?_
        refine ⟨_, rfl, _, rfl, a, n + marks.length + 1 + i, 2, rfl, hs', by omega, by decide, by decide, fun u d2 hd2 hs5 => ⟨rfl, by show 2 ≤ sizeLine; decide, fun t ht => ?_⟩⟩
        have sm5 : SameS a H' (upd (upd H' a (.lst u)) t (.tup [.str m, .bl (decide (V.int d2 = V.int 0))])) := (SameS.refl H').upd.new ht
        have hs6 := hs5.same (Same.new ht (o := .tup [.str m, .bl (decide (V.int d2 = V.int 0))]))
        have htt : upd (upd H' a (.lst u)) t (.tup [.str m, .bl (decide (V.int d2 = V.int 0))]) t = some (.tup [.str m, .bl (decide (V.int d2 = V.int 0))]) := upd_same
        generalize upd (upd H' a (.lst u)) t (.tup [.str m, .bl (decide (V.int d2 = V.int 0))]) = H5 at sm5 hs6 htt ⊢
        have hz5 := sm5 _ _ nDa hz
        have st : ∀ o, Stay (fun _ => False) H5 (upd H5 D0 o) := fun o => stay_upd hz5 (nd_lst fun z => z)
        refine ⟨vs, hz5, Nat.lt_of_le_of_lt (show vs.length ≤ 20 by omega) (by decide), (sm'.trans sm5).at hD0, vs ++ [.ref t], c ++ [(m, decide (V.int d2 = V.int 0))], upd_same, ?_, ?_, (hs6.mono (by omega)).at nDa⟩
        · rw [List.map_append]
          refine Reps.append (Reps.mono (fun _ z => z) ((sm5.stay hu4 (fun z => z)).trans (st _)) hvs) (Reps.one ?_)
          exact ⟨t, _, rfl, st _ _ _ htt (.inr (.inl ⟨_, rfl⟩)), _, _, rfl, rfl, _, _, rfl, rfl, rfl⟩
        · rw [List.map_append, hc, ft]
          rfl
      · rw [decide_eq_false hm]
        rw [decide_eq_false hm, if_neg (by decide), List.append_nil] at ft
        exact iteF ⟨sm', vs, c, hz, hvs, by rw [hc, ft], hs'.mono (by omega)⟩
    · rintro H' ⟨sm', vs, c, hz, hvs, hc, hs'⟩
      rw [List.length_map, List.take_length] at hc
      rw [List.length_map] at hs'
      refine k H' (.ref D0) c (sm3.trans sm') ⟨D0, vs, rfl, sm3.none nDa hD0, hz, Reps.mono (fun _ z => z.elim) (stay_of (Same.refl H')) hvs⟩ (by rw [hc]; exact List.filter_sublist) (hs'.mono (by omega))
end
end Q1
set_option Elab.async false
set_option linter.all false
set_option maxRecDepth 100000
set_option maxHeartbeats 4000000
namespace Q1
open PySem L2 LamX
/-- the names that the law draws from -/
def gNames : List Str := ["a", "k", "m2", "u", "we", "y", "x1", "they", "z"]
theorem gNames_ok : ∀ x ∈ gNames, PyData.strOk x = true := by decide +kernel
theorem gNames_nd : gNames.Nodup := by decide +kernel
/-- a drawn game -/
structure Gv where
  ks : List (Str × Bool)
  ts : List (Str × Str)
  ns : List Str
  rs : List (List (Str × Bool))
def Gv.names (g : Gv) : List Str := g.ks.map Prod.fst ++ g.ts.map Prod.fst
structure GvOk (g : Gv) : Prop where
  k4 : g.ks.length ≤ 4
  t1 : 1 ≤ g.ts.length
  t4 : g.ts.length ≤ 4
  nd : g.names.Nodup
  nm : ∀ m ∈ g.names, m ∈ gNames
  hd : ∀ t ∈ g.ts, t.2 = ("we" : Str) ∨ t.2 = "they"
  nl : g.ns.length = g.ks.length
  np : ∀ m ∈ g.ns, m ∈ g.names
  rl : g.rs.length ≤ 6
  rp : ∀ c ∈ g.rs, (c.map Prod.fst).Sublist g.names
def gmD (g : Gv) : D := .tup [.lst (g.ks.map litD), .lst (g.ts.map hndD), .lst (g.ns.map D.str), .lst (g.rs.map clauseD)]
theorem rep_weak {a : Addr} {H Hb H' : Hp} {n : Nat} {d : D} {v : V} (sm : SameS a H Hb) (st : Strm Hb a n) (r : Rep (fun b => Hb b = none) H' d v) : Rep (fun b => H b = none) H' d v :=
  Rep.mono (fun b hb => sm.none (fun z => by
    obtain ⟨u, hu⟩ := st.lst
    rw [z, hu] at hb
    cases hb) hb) (stay_of (Same.refl H')) r
theorem map_fst_eq {β : Type} {xs : List (Str × β)} {l : List Str} (hl : xs.length = l.length) (h : ∀ (j : Nat) (x : Str × β), xs[j]? = some x → l[j]? = some x.1) : xs.map Prod.fst = l := by
  refine List.ext_getElem? fun j => ?_
  rw [List.getElem?_map]
  cases e : xs[j]? with
  | some x => rw [h j x e]; rfl
  | none =>
    have := List.getElem?_eq_none_iff.mp e
    rw [List.getElem?_eq_none_iff.mpr (by omega)]
    rfl
theorem cutV_mid (xs : List V) (m t : Nat) (h : m + t ≤ xs.length) : cutV xs (some (m : Int)) (some ((m + t : Nat) : Int)) = (xs.drop m).take t := by
  unfold cutV
  rw [HT.sIx_nat, HT.sIx_nat, Nat.min_eq_left h, Nat.min_eq_left (show m ≤ xs.length by omega), show m + t - m = t by omega]
theorem cutV_dropN (xs : List V) (m : Nat) (h : m ≤ xs.length) : cutV xs (some (m : Int)) none = xs.drop m := by
  unfold cutV
  rw [HT.sIx_nat, HT.sIx_none, Nat.min_eq_left h]
  exact List.take_of_length_le (by rw [List.length_drop]; exact Nat.le_refl _)
section
variable {P : Program} {w : World} {K : PySem.W.Frag} {mg : Str → Option Value} {base : Heap}
/-! ### _law_g_game -/
abbrev sGg : Stmt := top 50
abbrev nGg : List Str := ["well", "most", "names", "many", "turns", "kept", "moves", "marks", "nexts", "rules", "name", "k"]
theorem scGg : FnScope nGg ["well", "most"] (defScope sGg) := ⟨rfl, rfl, rfl, by decide +kernel, rfl, by decide +kernel, by decide +kernel⟩
def spGg : Sp := fun vs H Q _ => ∃ (s : Addr) (n : Nat), vs = [.ref s, .int 4] ∧ Strm H s n ∧ n + 2000 < LIM ∧
  ∀ H' v g, SameS s H H' → Rep (fun a => H a = none) H' (gmD g) v → GvOk g → Strm H' s (n + 2000) → Q v H'
theorem ok_gg (B : Bt mg) (N : Dn K mg "_law_g_game" sGg ["well", "most"]) (NG : Dn K mg "_law_g_clause" sGc ["well", "marks", "most"]) (NP : Dn K mg "_law_pick" sPick ["well", "some"]) (NM : Dn K mg "_law_mixed" sMixed ["well", "some"]) (ND : Dn K mg "_law_draw" sDraw ["well", "many"]) : FnOk P w K mg base CX0 4 N.f N.fd ["well", "most"] spGg := by
  have GM : FnOk P w K mg base CX0 2 NM.f NM.fd ["well", "some"] (spMixed K) := ok_mixed B NM ND
  have GD : FnOk P w K mg base CX0 1 ND.f ND.fd ["well", "many"] spDraw := ok_draw B ND
  have GP : FnOk P w K mg base CX0 2 NP.f NP.fd ["well", "some"] spPick := ok_pick B NP ND
  have GC : FnOk P w K mg base CX0 3 NG.f NG.fd ["well", "marks", "most"] spGc := ok_gc B NG NM ND
  refine N.F.ok scGg (fun vs H Q E h => ?_) (fun cdv A outer s H vs Q E hr h => ?_)
  · obtain ⟨s, n, rfl, _⟩ := h
    rfl
  · obtain ⟨a, n, rfl, hs, hn, k⟩ := h
    refine ⟨_, pss_cons (ps_set (i := 2) scGg.nd rfl (Or.inl rfl) (pe_call GM (hr.mono (by decide)) (by rfl) NM.g NM.F.kp NM.b .nil pass0 (pa_cons (pv 0) (pa_cons (pe_lst (pa_cons pe_str (pa_cons pe_str (pa_cons pe_str (pa_cons pe_str (pa_cons pe_str (pa_cons pe_str (pa_cons pe_str (pa_cons pe_str (pa_cons pe_str pa_nil)))))))))) pa_nil))))
      (pss_cons (ps_asg (pe_tup (pa_cons (pe_call GD (hr.mono (by decide)) (by rfl) ND.g ND.F.kp ND.b .nil pass0 (pa_cons (pv 0) (pa_cons (pe_op op_add (pv 1) pe_int) pa_nil))) (pa_cons (pe_op op_add pe_int (pe_call GD (hr.mono (by decide)) (by rfl) ND.g ND.F.kp ND.b .nil pass0 (pa_cons (pv 0) (pa_cons pe_int pa_nil)))) pa_nil))) (pg_tup rfl (pgs_cons (pg_name (i := 3) scGg.nd rfl (Or.inr rfl)) (pgs_cons (pg_name (i := 4) scGg.nd rfl (Or.inl rfl)) pgs_nil))))
      (pss_cons (ps_setLc (i := 5) (own := [("name", 10)]) (g := gName 10) (tt := tYes) (te := tTup (tCons (tVar 10) (tCons (tOp rEq (tCall spDraw [] E0 (tCons (tVar 0) (tCons (tC (.int 2)) tNil))) (tC (.int 0))) tNil))) (by rfl) scGg.nd rfl rfl (sw_true rfl rfl rfl (by decide +kernel)) (pi_list (pe_slice sl_list (pv 2) po_none (po_some (pv 3)))) (blkOk_by (own := [("name", 10)]) (N := nGg) (sc := defScope sGg) (by decide +kernel))
          (fun _ _ _ _ _ => pg_name (i := 10) scGg.nd rfl (Or.inl rfl)) (fun _ _ _ _ _ => pts_nil)
          (fun _ _ _ _ _ => pe_tup (pa_cons (pv 10) (pa_cons (pe_cmpR op_eq (pe_call GD (hr.mono (by decide)) (by rfl) ND.g ND.F.kp ND.b .nil pass0 (pa_cons (pv 0) (pa_cons pe_int pa_nil))) pe_int (nomark _)) pa_nil))))
      (pss_cons (ps_setLc (i := 6) (own := [("name", 10)]) (g := gName 10) (tt := tYes) (te := tTup (tCons (tVar 10) (tCons (tCall spPick [] E0 (tCons (tVar 0) (tCons (tLst (tCons (tC (.str "we")) (tCons (tC (.str "they")) tNil))) tNil))) tNil))) (by rfl) scGg.nd rfl rfl (sw_true rfl rfl rfl (by decide +kernel)) (pi_list (pe_slice sl_list (pv 2) (po_some (pv 3)) (po_some (pe_op op_add (pv 3) (pv 4))))) (blkOk_by (own := [("name", 10)]) (N := nGg) (sc := defScope sGg) (by decide +kernel))
          (fun _ _ _ _ _ => pg_name (i := 10) scGg.nd rfl (Or.inl rfl)) (fun _ _ _ _ _ => pts_nil)
          (fun _ _ _ _ _ => pe_tup (pa_cons (pv 10) (pa_cons (pe_call GP (hr.mono (by decide)) (by rfl) NP.g NP.F.kp NP.b .nil pass0 (pa_cons (pv 0) (pa_cons (pe_lst (pa_cons pe_str (pa_cons pe_str pa_nil))) pa_nil))) pa_nil))))
      (pss_cons (ps_set (i := 7) scGg.nd rfl (Or.inr rfl) (pe_slice sl_list (pv 2) po_none (po_some (pe_op op_add (pv 3) (pv 4)))))
      (pss_cons (ps_setLc (i := 8) (own := [("k", 11)]) (g := gName 11) (tt := tYes) (te := tCall spPick [] E0 (tCons (tVar 0) (tCons (tIf (tB (tGt (tCall spDraw [] E0 (tCons (tVar 0) (tCons (tC (.int 4)) tNil))) (tC (.int 0)))) (tSl (rSlL K) (tVar 7) (tPart (tVar 3)) tNoPart) (tVar 7)) tNil))) (by rfl) scGg.nd rfl rfl (sw_true rfl rfl rfl (by decide +kernel)) (pi_range1 (by rfl) B.range (pa_cons (pv 3) pa_nil)) (blkOk_by (own := [("k", 11)]) (N := nGg) (sc := defScope sGg) (by decide +kernel))
          (fun _ _ _ _ _ => pg_name (i := 11) scGg.nd rfl (Or.inl rfl)) (fun _ _ _ _ _ => pts_nil)
          (fun _ _ _ _ _ => pe_call GP (hr.mono (by decide)) (by rfl) NP.g NP.F.kp NP.b .nil pass0 (pa_cons (pv 0) (pa_cons (pe_ifExp (pt_cmp (pc_gt (pe_call GD (hr.mono (by decide)) (by rfl) ND.g ND.F.kp ND.b .nil pass0 (pa_cons (pv 0) (pa_cons pe_int pa_nil))) pe_int) (by rfl)) (pe_slice sl_list (pv 7) (po_some (pv 3)) po_none) (pv 7)) pa_nil))))
      (pss_cons (ps_setLc (i := 9) (own := [("k", 11)]) (g := gName 11) (tt := tYes) (te := tCall spGc [] E0 (tCons (tVar 0) (tCons (tVar 7) (tCons (tC (.int 3)) tNil)))) (by rfl) scGg.nd rfl rfl (sw_true rfl rfl rfl (by decide +kernel)) (pi_range1 (by rfl) B.range (pa_cons (pe_call GD (hr.mono (by decide)) (by rfl) ND.g ND.F.kp ND.b .nil pass0 (pa_cons (pv 0) (pa_cons pe_int pa_nil))) pa_nil)) (blkOk_by (own := [("k", 11)]) (N := nGg) (sc := defScope sGg) (by decide +kernel))
          (fun _ _ _ _ _ => pg_name (i := 11) scGg.nd rfl (Or.inl rfl)) (fun _ _ _ _ _ => pts_nil)
          (fun _ _ _ _ _ => pe_call GC (hr.mono (by decide)) (by rfl) NG.g NG.F.kp NG.b .nil pass0 (pa_cons (pv 0) (pa_cons (pv 7) (pa_cons pe_int pa_nil)))))
      (pss_cons (ps_if (pt_cmpR op_eq (pe_call GD (hr.mono (by decide)) (by rfl) ND.g ND.F.kp ND.b .nil pass0 (pa_cons (pv 0) (pa_cons pe_int pa_nil))) pe_int (nomark _)) (pss_one (ps_expr (pe_bm PySem.F.plainAttrs_list PySem.F.slot_list_append PySem.F.type_list_append mt_append (pv 9) (pa_cons (pe_lst pa_nil) pa_nil)))) pss_nil)
      (pss_one (ps_ret (pe_tup (pa_cons (pv 5) (pa_cons (pv 6) (pa_cons (pv 8) (pa_cons (pv 9) pa_nil)))))))))))))), ?_⟩
    obtain ⟨u0, hu0⟩ := hs.lst
    have nSa : ¬ (H a = none) := fun z => by rw [hu0] at z; cases z
    refine ⟨_, rfl, by show 9 ≤ sizeLine; decide, fun p1 hp1 => ?_⟩
    refine ⟨fun _ => False, a, p1, n, gNames.map V.str, gNames.map D.str, rfl, hs.same (Same.new hp1), by show n + 9 < LIM; omega, .inl (SqL.of upd_same), reps_strs _ _ _, fun z => z, oks_strs 8 gNames_ok, by decide, fun H1 r ys sm1 perm hr0 hr1 hs1 => ?_⟩
    obtain ⟨L, lp, rfl⟩ := perm_strs perm
    have hLn : L.Nodup := lp.symm.nodup gNames_nd
    have hLl : L.length = 9 := lp.length_eq
    have hLm : ∀ x ∈ L, x ∈ gNames := fun x hx => lp.subset hx
    have sm01 : SameS a H H1 := ((SameS.refl H).new hp1).trans sm1
    have hs1 : Strm H1 a (n + 9) := hs1
    have nra : r ≠ a := fun z => by
      rw [z] at hr0
      rw [upd_ne (fun z => by rw [← z] at hp1; exact nSa hp1)] at hr0
      exact nSa hr0
    refine ⟨_, rfl, _, rfl, _, _, rfl, rfl, a, n + 9, 5, rfl, hs1, by omega, by decide, by decide, fun u1 m hm hs2 => ?_⟩
    have sm02 : SameS a H (upd H1 a (.lst u1)) := sm01.upd
    have hr2 : upd H1 a (.lst u1) r = some (.lst (L.map V.str)) := by rw [upd_ne nra]; exact hr1
    generalize upd H1 a (.lst u1) = H2 at sm02 hr2 hs2 ⊢
    refine ⟨_, rfl, a, n + 10, 4, rfl, hs2, by omega, by decide, by decide, fun u2 t ht hs3 => ⟨1, (t : Nat), rfl, rfl, by show 2 ≤ sizeLine; decide, fun tp htp => ?_⟩⟩
    have sm03 : SameS a H (upd H2 a (.lst u2)) := sm02.upd
    have hr3 : upd H2 a (.lst u2) r = some (.lst (L.map V.str)) := by rw [upd_ne nra]; exact hr2
    generalize upd H2 a (.lst u2) = H3 at sm03 hr3 hs3 htp ⊢
    have s34 : Same H3 (upd H3 tp (.tup [.int (m : Nat), .int (1 + (t : Nat))])) := Same.new htp
    refine ⟨tp, _, rfl, SqT.of upd_same, rfl, ?_⟩
    refine ⟨_, _, rfl, _, _, rfl, rfl, ?_⟩
    have hs4 := hs3.same s34
    have hr4 := s34 _ _ hr3
    have sm04 := sm03.trans (SameS.of s34)
    generalize upd H3 tp (.tup [.int (m : Nat), .int (1 + (t : Nat))]) = H4 at hs4 hr4 sm04 ⊢
    clear s34 htp
    have eT : (1 : Int) + ((t : Nat) : Int) = ((1 + t : Nat) : Int) := by omega
    dsimp only
    rw [eT]
    generalize hT : 1 + t = T
    have T1 : 1 ≤ T := by omega
    have T4 : T ≤ 4 := by omega
    -- kept
    refine ⟨_, rfl, _, rfl, (m : Nat), rfl, r, _, rfl, SqL.of hr4, fun q hq => ?_⟩
    rw [cutV_take, ← List.map_take]
    have s45 : Same H4 (upd H4 q (.lst ((L.take m).map V.str))) := Same.new hq
    have hq5 : upd H4 q (.lst ((L.take m).map V.str)) q = some (.lst ((L.take m).map V.str)) := upd_same
    have hs5 := hs4.same s45
    have hr5 := s45 _ _ hr4
    have sm05 := sm04.trans (SameS.of s45)
    have nqa : q ≠ a := fun z => by
      obtain ⟨u, hu⟩ := hs4.lst
      rw [z, hu] at hq
      cases hq
    generalize upd H4 q (.lst ((L.take m).map V.str)) = H5 at hq5 hs5 hr5 sm05 ⊢
    clear s45 hq
    refine ⟨q, rfl, ⟨_, SqL.of hq5⟩, fun D0 hD0 => ?_⟩
    refine lc_list (K := K) (a := q) (xs := (L.take m).map V.str) (PvS a H5 D0 (n + 11) 1 fun j d => ∃ x : Str × Bool, d = litD x ∧ (L.take m)[0 + j]? = some x.1) (pvs_zero (hs5.mono (by omega)) hD0) (fun i H' _ h => SqL.of (h.sm _ _ nqa hq5)) ?_ ?_
    · rintro i x H' hx p
      rw [List.getElem?_map] at hx
      cases qm : (L.take m)[i]? with
      | none => rw [qm] at hx; cases hx
      | some nm =>
      rw [qm] at hx
      cases hx
      have hil := (List.getElem?_eq_some_iff.mp qm).1
      rw [List.length_take] at hil
      refine ⟨rfl, ?_⟩
      unfold tYes
      refine iteT ?_
      refine ⟨_, rfl, _, rfl, a, n + 11 + 1 * i, 2, rfl, p.st, by omega, by decide, by decide, fun u d2 hd2 hs6 => ⟨rfl, by show 2 ≤ sizeLine; decide, fun tt htt => ?_⟩⟩
      have s6 : SameS a H' (upd (upd H' a (.lst u)) tt (.tup [.str nm, .bl (decide (V.int d2 = V.int 0))])) := (SameS.refl H').upd.new htt
      exact pvs_step (hs5.mono (by omega)) hD0 (by omega) p s6 (d := litD (nm, decide (V.int d2 = V.int 0))) ⟨tt, _, rfl, upd_same, _, _, rfl, rfl, _, _, rfl, rfl, rfl⟩ ⟨_, rfl, by rw [Nat.zero_add]; exact qm⟩ ((hs6.same (Same.new htt)).mono (by omega))
    rintro H6 p6
    have hs6 : Strm H6 a (n + 20) := p6.st.mono (by rw [List.length_map, List.length_take]; omega)
    obtain ⟨dsk, rk, lk, pk⟩ := pvs_end hD0 p6
    obtain ⟨ks, rfl, hks⟩ := choose_list (f := litD) (k := 0) (p := fun j x => (L.take m)[j]? = some x.1) pk
    rw [List.length_map, List.length_map, List.length_take] at lk
    have eks : ks.map Prod.fst = L.take m := map_fst_eq (by rw [List.length_take]; exact lk) fun j x e => by
      have := hks j x e
      rw [Nat.zero_add] at this
      exact this
    have rk := rep_weak sm05 hs5 rk
    have sm06 := sm05.trans p6.sm
    have hr6 := p6.sm _ _ nra hr5
    clear p6 pk hks hD0 hq5 hr5 sm05 hs5 hr4 hs4 sm04
    -- moves
    refine ⟨_, rfl, _, rfl, (m : Nat), rfl, _, rfl, _, rfl, (m : Nat), (T : Nat), rfl, rfl, _, rfl, r, _, rfl, SqL.of hr6, fun q hq => ?_⟩
    rw [show ((m : Nat) : Int) + ((T : Nat) : Int) = ((m + T : Nat) : Int) by omega, cutV_mid _ _ _ (by rw [List.length_map]; omega), ← List.map_drop, ← List.map_take]
    have s67 : Same H6 (upd H6 q (.lst (((L.drop m).take T).map V.str))) := Same.new hq
    have hq7 : upd H6 q (.lst (((L.drop m).take T).map V.str)) q = some (.lst (((L.drop m).take T).map V.str)) := upd_same
    have hs7 := hs6.same s67
    have hr7 := s67 _ _ hr6
    have sm07 := sm06.trans (SameS.of s67)
    have rk := rk.same s67
    have nqa : q ≠ a := fun z => by
      obtain ⟨u, hu⟩ := hs6.lst
      rw [z, hu] at hq
      cases hq
    generalize upd H6 q (.lst (((L.drop m).take T).map V.str)) = H7 at hq7 hs7 hr7 sm07 rk ⊢
    clear s67 hq hs6 hr6 sm06
    refine ⟨q, rfl, ⟨_, SqL.of hq7⟩, fun D1 hD1 => ?_⟩
    refine lc_list (K := K) (a := q) (xs := ((L.drop m).take T).map V.str) (PvS a H7 D1 (n + 20) 1 fun j d => ∃ x : Str × Str, d = hndD x ∧ (((L.drop m).take T)[0 + j]? = some x.1 ∧ (x.2 = ("we" : Str) ∨ x.2 = "they"))) (pvs_zero hs7 hD1) (fun i H' _ h => SqL.of (h.sm _ _ nqa hq7)) ?_ ?_
    · rintro i x H' hx p
      rw [List.getElem?_map] at hx
      cases qm : ((L.drop m).take T)[i]? with
      | none => rw [qm] at hx; cases hx
      | some nm =>
      rw [qm] at hx
      cases hx
      have hil := (List.getElem?_eq_some_iff.mp qm).1
      rw [List.length_take] at hil
      refine ⟨rfl, ?_⟩
      unfold tYes
      refine iteT ?_
      refine ⟨_, rfl, _, rfl, by show 2 ≤ sizeLine; decide, fun pl hpl => ?_⟩
      have sp : Same H' (upd H' pl (.lst [.str "we", .str "they"])) := Same.new hpl
      have hpl2 : upd H' pl (.lst [.str "we", .str "they"]) pl = some (.lst [.str "we", .str "they"]) := upd_same
      have hsp := p.st.same sp
      have npa : pl ≠ a := fun z => by
        obtain ⟨u, hu⟩ := p.st.lst
        rw [z, hu] at hpl
        cases hpl
      generalize upd H' pl (.lst [.str "we", .str "they"]) = Hq at sp hpl2 hsp ⊢
      refine ⟨a, pl, n + 20 + 1 * i, _, rfl, hsp, by omega, hpl2, npa, by show 0 < 2; decide, by show 2 < 1000000; decide, fun u v hv hs6 => ⟨by show 2 ≤ sizeLine; decide, fun tt htt => ?_⟩⟩
      obtain ⟨hn2, rfl, hh⟩ : ∃ z : Str, v = .str z ∧ (z = ("we" : Str) ∨ z = "they") := by
        rcases List.mem_cons.mp hv with e | hv
        · exact ⟨"we", e, .inl rfl⟩
        · rcases List.mem_cons.mp hv with e | hv
          · exact ⟨"they", e, .inr rfl⟩
          · cases hv
      have s6 : SameS a H' (upd (upd Hq a (.lst u)) tt (.tup [.str nm, .str hn2])) := (SameS.of sp).upd.new htt
      exact pvs_step hs7 hD1 (by omega) p s6 (d := hndD (nm, hn2)) ⟨tt, _, rfl, upd_same, _, _, rfl, rfl, _, _, rfl, rfl, rfl⟩ ⟨(nm, hn2), rfl, by rw [Nat.zero_add]; exact qm, hh⟩ ((hs6.same (Same.new htt)).mono (by omega))
    rintro H8 p8
    have hs8 : Strm H8 a (n + 30) := p8.st.mono (by rw [List.length_map, List.length_take]; omega)
    obtain ⟨dst, rt, lt, pt⟩ := pvs_end hD1 p8
    obtain ⟨ts, rfl, hts⟩ := choose_list (f := hndD) (k := 0) (p := fun j x => ((L.drop m).take T)[j]? = some x.1 ∧ (x.2 = ("we" : Str) ∨ x.2 = "they")) pt
    rw [List.length_map, List.length_map, List.length_take, List.length_drop] at lt
    have ets : ts.map Prod.fst = (L.drop m).take T := map_fst_eq (by rw [List.length_take, List.length_drop]; exact lt) fun j x e => by
      have := (hts j x e).1
      rw [Nat.zero_add] at this
      exact this
    have hth : ∀ t ∈ ts, t.2 = ("we" : Str) ∨ t.2 = "they" := fun t ht => by
      obtain ⟨j, e⟩ := List.mem_iff_getElem?.mp ht
      exact (hts j t e).2
    have rt := rep_weak sm07 hs7 rt
    have rk := sameS_rep p8.sm hs7 nSa rk
    have sm08 := sm07.trans p8.sm
    have hr8 := p8.sm _ _ nra hr7
    clear p8 pt hts hD1 hq7 hr7 sm07 hs7
    -- marks
    refine ⟨_, rfl, _, rfl, _, rfl, (m : Nat), (T : Nat), rfl, rfl, _, rfl, r, _, rfl, SqL.of hr8, fun lM hlM => ?_⟩
    rw [show ((m : Nat) : Int) + ((T : Nat) : Int) = ((m + T : Nat) : Int) by omega, cutV_take, ← List.map_take]
    have s89 : Same H8 (upd H8 lM (.lst ((L.take (m + T)).map V.str))) := Same.new hlM
    have hM9 : upd H8 lM (.lst ((L.take (m + T)).map V.str)) lM = some (.lst ((L.take (m + T)).map V.str)) := upd_same
    have hs9 := hs8.same s89
    have sm09 := sm08.trans (SameS.of s89)
    have rk := rk.same s89
    have rt := rt.same s89
    have nMa : lM ≠ a := fun z => by
      obtain ⟨u, hu⟩ := hs8.lst
      rw [z, hu] at hlM
      cases hlM
    generalize upd H8 lM (.lst ((L.take (m + T)).map V.str)) = H9 at hM9 hs9 sm09 rk rt ⊢
    clear s89 hlM hs8 hr8 sm08
    have enm : ks.map Prod.fst ++ ts.map Prod.fst = L.take (m + T) := by rw [eks, ets, List.take_add]
    have hMl : (L.take (m + T)).length = m + T := by rw [List.length_take]; omega
    -- nexts
    refine ⟨_, rfl, _, rfl, by omega, by omega, fun D2 hD2 => ?_⟩
    rw [Int.toNat_natCast]
    refine lc_range (lo := 0) (n := m) (PvS a H9 D2 (n + 30) 2 fun j d => ∃ x : Str, d = .str x ∧ x ∈ L.take (m + T)) (pvs_zero hs9 hD2) ?_ ?_
    · rintro i H' hi p
      refine ⟨rfl, ?_⟩
      unfold tYes
      refine iteT ?_
      have hM' := p.sm _ _ nMa hM9
      refine ⟨_, rfl, _, rfl, a, n + 30 + 2 * i, 4, rfl, p.st, by omega, by decide, by decide, fun u d2 hd2 hs6 => ⟨_, _, rfl, rfl, _, rfl, ?_⟩⟩
      have s6 : SameS a H' (upd H' a (.lst u)) := (SameS.refl H').upd
      have hM6 := s6 _ _ nMa hM'
      generalize upd H' a (.lst u) = Hq at s6 hM6 hs6 ⊢
      refine ite2 (fun _ => ?_) (fun _ => ?_)
      · refine ⟨_, rfl, _, rfl, (m : Nat), rfl, lM, _, rfl, SqL.of hM6, fun q hq => ?_⟩
        rw [cutV_dropN _ _ (by rw [List.length_map]; omega), ← List.map_drop]
        have s7 : Same Hq (upd Hq q (.lst (((L.take (m + T)).drop m).map V.str))) := Same.new hq
        have hq7 : upd Hq q (.lst (((L.take (m + T)).drop m).map V.str)) q = some (.lst (((L.take (m + T)).drop m).map V.str)) := upd_same
        have hs7 := hs6.same s7
        have nqa : q ≠ a := fun z => by
          obtain ⟨u, hu⟩ := hs6.lst
          rw [z, hu] at hq
          cases hq
        generalize upd Hq q (.lst (((L.take (m + T)).drop m).map V.str)) = Hr at s7 hq7 hs7 ⊢
        refine ⟨a, q, n + 30 + 2 * i + 1, _, rfl, hs7, by omega, hq7, nqa, by rw [List.length_map, List.length_drop]; omega, by rw [List.length_map, List.length_drop]; omega, fun u v hv hs8 => ?_⟩
        obtain ⟨x, hx, rfl⟩ := List.mem_map.mp hv
        exact pvs_step hs9 hD2 (by omega) p ((s6.trans (SameS.of s7)).upd) (d := .str x) rfl ⟨x, rfl, List.mem_of_mem_drop hx⟩ (hs8.mono (by omega))
      · refine ⟨_, rfl, a, lM, n + 30 + 2 * i + 1, _, rfl, hs6, by omega, hM6, nMa, by rw [List.length_map]; omega, by rw [List.length_map]; omega, fun u v hv hs8 => ?_⟩
        obtain ⟨x, hx, rfl⟩ := List.mem_map.mp hv
        exact pvs_step hs9 hD2 (by omega) p s6.upd (d := .str x) rfl ⟨x, rfl, hx⟩ (hs8.mono (by omega))
    rintro H10 p10
    have hs10 : Strm H10 a (n + 40) := p10.st.mono (by omega)
    obtain ⟨dsn, rn, ln, pn⟩ := pvs_end hD2 p10
    obtain ⟨ns, rfl, hns⟩ := choose_list (f := D.str) (k := 0) (p := fun _ x => x ∈ L.take (m + T)) pn
    rw [List.length_map] at ln
    have hnm : ∀ x ∈ ns, x ∈ L.take (m + T) := fun x hx => by
      obtain ⟨j, e⟩ := List.mem_iff_getElem?.mp hx
      exact hns j x e
    have rn := rep_weak sm09 hs9 rn
    have rk := sameS_rep p10.sm hs9 nSa rk
    have rt := sameS_rep p10.sm hs9 nSa rt
    have sm010 := sm09.trans p10.sm
    have hM10 := p10.sm _ _ nMa hM9
    clear p10 pn hns hD2 hM9 sm09 hs9
    -- rules
    refine ⟨_, rfl, a, n + 40, 6, rfl, hs10, by omega, by decide, by decide, fun u3 d3 hd3 hs11 => ?_⟩
    have s11 : SameS a H10 (upd H10 a (.lst u3)) := (SameS.refl H10).upd
    have hM11 := s11 _ _ nMa hM10
    have rk := sameS_rep s11 hs10 nSa rk
    have rt := sameS_rep s11 hs10 nSa rt
    have rn := sameS_rep s11 hs10 nSa rn
    have sm011 := sm010.trans s11
    generalize upd H10 a (.lst u3) = H11 at s11 hM11 rk rt rn sm011 hs11 ⊢
    refine ⟨(d3 : Nat), rfl, by omega, by omega, fun lR hlR => ?_⟩
    rw [Int.toNat_natCast]
    have hMok : ∀ x ∈ L.take (m + T), PyData.strOk x = true := fun x hx => gNames_ok x (hLm x (List.mem_of_mem_take hx))
    refine lc_range (lo := 0) (n := d3) (PvS a H11 lR (n + 41) 100 fun j d => ∃ c : List (Str × Bool), d = clauseD c ∧ (c.map Prod.fst).Sublist (L.take (m + T))) (pvs_zero (hs11.mono (by omega)) hlR) ?_ ?_
    · rintro i H' hi p
      refine ⟨rfl, ?_⟩
      unfold tYes
      refine iteT ?_
      refine ⟨_, rfl, _, rfl, a, lM, n + 41 + 100 * i, _, rfl, p.st, by omega, p.sm _ _ nMa hM11, nMa, by omega, hMok, fun H2 v c s2 rc hc hs2 => ?_⟩
      exact pvs_step (hs11.mono (by omega)) hlR (by omega) p s2 rc ⟨c, rfl, hc⟩ (hs2.mono (by omega))
    rintro H12 p12
    have hs12 : Strm H12 a (n + 1000) := p12.st.mono (by omega)
    obtain ⟨vs, dsr, hz, hvs, lr, pr⟩ := p12.ex
    obtain ⟨rs, rfl, hrs⟩ := choose_list (f := clauseD) (k := 0) (p := fun _ c => (c.map Prod.fst).Sublist (L.take (m + T))) pr
    rw [List.length_map] at lr
    have hrm : ∀ c ∈ rs, (c.map Prod.fst).Sublist (L.take (m + T)) := fun c hc => by
      obtain ⟨j, e⟩ := List.mem_iff_getElem?.mp hc
      exact hrs j c e
    have rk := sameS_rep p12.sm hs11 (fun z => nSa z.1) rk.here
    have rt := sameS_rep p12.sm hs11 (fun z => nSa z.1) rt.here
    have rn := sameS_rep p12.sm hs11 (fun z => nSa z.1) rn.here
    have sm012 := sm011.trans p12.sm
    have nRa : lR ≠ a := fun z => by
      obtain ⟨u, hu⟩ := hs11.lst
      rw [z, hu] at hlR
      cases hlR
    have lRH : H lR = none := sm011.none nRa hlR
    have lvs := hvs.length
    rw [List.length_map] at lvs
    have hvs : Reps (fun b => H b = none ∧ b ≠ lR) H12 (rs.map clauseD) vs := Reps.mono (fun b hb => ⟨sm011.none (fun z => by
      obtain ⟨u, hu⟩ := hs11.lst
      rw [z, hu] at hb
      cases hb.1) hb.1, hb.2⟩) (stay_of (Same.refl H12)) hvs
    -- the end
    have fin : ∀ H13 (us : List V) (rs2 : List (List (Str × Bool))), SameS a H H13 → Rep (fun b => H b = none ∧ H11 b ≠ none) H13 (.lst (ks.map litD)) (.ref D0) → Rep (fun b => H b = none ∧ H11 b ≠ none) H13 (.lst (ts.map hndD)) (.ref D1) → Rep (fun b => H b = none ∧ H11 b ≠ none) H13 (.lst (ns.map D.str)) (.ref D2) → H13 lR = some (.lst us) → Reps (fun b => H b = none ∧ b ≠ lR) H13 (rs2.map clauseD) us → Strm H13 a (n + 2000) → rs2.length ≤ 6 → (∀ c ∈ rs2, (c.map Prod.fst).Sublist (L.take (m + T))) → ∀ tq, H13 tq = none → Q (.ref tq) (upd H13 tq (.tup [.ref D0, .ref D1, .ref D2, .ref lR])) := fun H13 us rs2 sm13 rk rt rn hz hus hs13 l6 hsub tq htq => by
      have s14 : Same H13 (upd H13 tq (.tup [.ref D0, .ref D1, .ref D2, .ref lR])) := Same.new htq
      refine k _ (.ref tq) ⟨ks, ts, ns, rs2⟩ (sm13.trans (SameS.of s14)) ⟨tq, _, rfl, upd_same, ?_⟩ ⟨?_, ?_, ?_, ?_, ?_, hth, ?_, ?_, l6, ?_⟩ (hs13.same s14)
      · exact ⟨_, _, rfl, (Rep.mono (fun _ z => z.1) (stay_of s14) rk), _, _, rfl, (Rep.mono (fun _ z => z.1) (stay_of s14) rt), _, _, rfl, (Rep.mono (fun _ z => z.1) (stay_of s14) rn), _, _, rfl, ⟨lR, us, rfl, lRH, s14 _ _ hz, Reps.mono (fun _ z => z.1) (stay_of s14) hus⟩, rfl⟩
      · show ks.length ≤ 4
        omega
      · show 1 ≤ ts.length
        omega
      · show ts.length ≤ 4
        omega
      · show (ks.map Prod.fst ++ ts.map Prod.fst).Nodup
        rw [enm]
        exact List.Sublist.nodup (List.take_sublist _ _) hLn
      · show ∀ x ∈ ks.map Prod.fst ++ ts.map Prod.fst, x ∈ gNames
        rw [enm]
        exact fun x hx => hLm x (List.mem_of_mem_take hx)
      · show ns.length = ks.length
        omega
      · show ∀ x ∈ ns, x ∈ ks.map Prod.fst ++ ts.map Prod.fst
        rw [enm]
        exact hnm
      · show ∀ c ∈ rs2, (c.map Prod.fst).Sublist (ks.map Prod.fst ++ ts.map Prod.fst)
        rw [enm]
        exact hsub
    refine ⟨_, rfl, a, n + 1000, 12, rfl, hs12, by omega, by decide, by decide, fun u4 d4 hd4 hs13 => ⟨rfl, _, rfl, ?_⟩⟩
    have s13 : SameS a H12 (upd H12 a (.lst u4)) := (SameS.refl H12).upd
    have rk := sameS_rep s13 hs12 (fun z => nSa z.1) rk
    have rt := sameS_rep s13 hs12 (fun z => nSa z.1) rt
    have rn := sameS_rep s13 hs12 (fun z => nSa z.1) rn
    have hz := s13 _ _ nRa hz
    have hvs := sameS_reps s13 hs12 (fun z => nSa z.1) hvs
    have sm013 := sm012.trans s13
    generalize upd H12 a (.lst u4) = H13 at s13 rk rt rn hz hvs sm013 hs13 ⊢
    refine ite2 (fun _ => ?_) (fun _ => ?_)
    · refine ⟨_, rfl, .inl ⟨rfl, _, SqL.of hz⟩, Nat.zero_le _, fun e he => ?_⟩
      have s14 : Same H13 (upd H13 e (.lst [])) := Same.new he
      have he14 : upd H13 e (.lst []) e = some (.lst []) := upd_same
      have eH : H e = none := sm013.none (fun z => by
        obtain ⟨u, hu⟩ := hs13.lst
        rw [z, hu] at he
        cases he) he
      have neR : e ≠ lR := fun z => by rw [z, hz] at he; cases he
      have hz14 := s14 _ _ hz
      generalize upd H13 e (.lst []) = H14 at s14 he14 hz14 ⊢
      refine ⟨lR, _, _, rfl, rfl, hz14, Nat.lt_of_le_of_lt (show vs.length ≤ 10 by omega) (by decide), ?_⟩
      have nR11 : ¬ (H lR = none ∧ H11 lR ≠ none) := fun z => z.2 hlR
      have st1 : Stay (fun b => H b = none ∧ H11 b ≠ none) H14 (upd H14 lR (.lst (vs ++ [.ref e]))) := stay_upd hz14 (nd_lst nR11)
      have st2 : Stay (fun b => H b = none ∧ b ≠ lR) H14 (upd H14 lR (.lst (vs ++ [.ref e]))) := stay_upd hz14 (nd_lst fun z => z.2 rfl)
      refine ⟨_, rfl, _, rfl, _, rfl, _, rfl, by show 4 ≤ sizeLine; decide, fun tq htq => ?_⟩
      refine fin _ (vs ++ [.ref e]) (rs ++ [[]]) ((sm013.trans (SameS.of s14)).at lRH) (Rep.mono (fun _ z => z) st1 (rk.same s14)) (Rep.mono (fun _ z => z) st1 (rt.same s14)) (Rep.mono (fun _ z => z) st1 (rn.same s14)) upd_same ?_ (((hs13.same s14).mono (by omega)).at nRa) ?_ ?_ tq htq
      · rw [List.map_append]
        exact Reps.append (Reps.mono (fun _ z => z) st2 (hvs.same s14)) (Reps.one (Rep.mono (fun _ z => z) st2 ⟨e, [], rfl, ⟨eH, neR⟩, he14, rfl⟩))
      · rw [List.length_append]
        show rs.length + 1 ≤ 6
        omega
      · intro c hc
        rcases List.mem_append.mp hc with hc | hc
        · exact hrm c hc
        · rw [List.mem_singleton.mp hc]
          exact List.nil_sublist _
    · refine ⟨_, rfl, _, rfl, _, rfl, _, rfl, by show 4 ≤ sizeLine; decide, fun tq htq => ?_⟩
      exact fin _ vs rs sm013 rk rt rn hz hvs (hs13.mono (by omega)) (by omega) hrm tq htq
end
end Q1
set_option Elab.async false
set_option linter.all false
set_option maxRecDepth 100000
set_option maxHeartbeats 4000000
namespace Q1
open PySem L2 LamX
theorem paired_hnd {S : Addr → Prop} {K : PySem.W.Frag} {H : Hp} : ∀ {ts : List (Str × Str)} {us : List V}, Reps S H (ts.map hndD) us → ∃ ps : List Addr, us = ps.map V.ref ∧ Paired (fun (p : Addr) (kv : Key × V) => SqT K H p [kV kv.1, kv.2]) ps (ts.map fun t => ((Sum.inr t.1 : Key), V.str t.2))
  | [], _, h => by
    cases (show _ = [] from h)
    exact ⟨[], rfl, .nil⟩
  | t :: ts, _, h => by
    obtain ⟨v, r, rfl, h1, h2⟩ := h
    obtain ⟨ps, rfl, hp⟩ := paired_hnd h2
    obtain ⟨p, us, rfl, hq, rr⟩ := h1
    obtain ⟨v1, _, rfl, r1, v2, _, rfl, r2, rfl⟩ := rr
    cases (show v1 = .str t.1 from r1)
    cases (show v2 = .str t.2 from r2)
    exact ⟨p :: ps, rfl, .cons (SqT.of hq) hp⟩
theorem merge_vals {Pv : V → Prop} : ∀ (kvs acc : List (Key × V)), (∀ k v, valV acc k = some v → Pv v) → (∀ kv ∈ kvs, Pv kv.2) → ∀ k v, valV (mergeK acc kvs) k = some v → Pv v
  | [], acc, h, _, k, v, e => h k v e
  | kv :: kvs, acc, h, h2, k, v, e => by
    refine merge_vals kvs (putK acc kv.1 kv.2) (fun j x hx => ?_) (fun y hy => h2 y (List.mem_cons_of_mem _ hy)) k v e
    rw [valV_put] at hx
    split at hx
    · cases hx
      exact h2 kv List.mem_cons_self
    · exact h j x hx
theorem cutV_init (xs : List V) : cutV xs none (some (-1)) = xs.dropLast := by
  unfold cutV
  rw [HT.sIx_none, List.drop_zero, Nat.sub_zero]
  rcases List.eq_nil_or_concat xs with e | ⟨l, x, e⟩
  · subst e
    rfl
  · rw [List.concat_eq_append] at e
    subst e
    have : HT.sIx (l ++ [x]).length (l ++ [x]).length (some (-1)) = l.length := by
      unfold HT.sIx
      simp
      omega
    rw [this, List.dropLast_concat, List.take_append_of_le_length (Nat.le_refl _), List.take_length]
/-- the pairs of a game's marks, in turn -/
def Gv.ds (g : Gv) : List D := g.ks.map litD ++ g.ts.map hndD
theorem ds_first (g : Gv) : g.ds.map firstS = g.names := by
  unfold Gv.ds Gv.names
  rw [List.map_append, List.map_map, List.map_map]
  rfl
theorem ds_pair (g : Gv) : ∀ d ∈ g.ds, ∃ q, d = .tup [.str (firstS d), q] := fun d hd => by
  unfold Gv.ds at hd
  rcases List.mem_append.mp hd with hd | hd
  · obtain ⟨x, _, rfl⟩ := List.mem_map.mp hd
    exact ⟨.bl x.2, rfl⟩
  · obtain ⟨x, _, rfl⟩ := List.mem_map.mp hd
    exact ⟨.str x.2, rfl⟩
theorem sub_init {α : Type} {l m : List α} (h : l.Sublist m) : l.dropLast.Sublist m := (List.dropLast_sublist l).trans h
section
variable {P : Program} {w : World} {K : PySem.W.Frag} {mg : Str → Option Value} {base : Heap}
/-! ### _law_drawn -/
abbrev sDn : Stmt := top 55
abbrev nDn : List Str := ["stream", "game", "hands", "found", "names", "one", "mark", "what"]
theorem scDn : FnScope nDn ["stream", "game"] (defScope sDn) := ⟨rfl, rfl, rfl, by decide +kernel, rfl, by decide +kernel, by decide +kernel⟩
def spDn : Sp := fun vs H Q _ => ∃ (S : Addr → Prop) (s : Addr) (n : Nat) (g : Gv) (v : V), vs = [.ref s, v] ∧ Strm H s n ∧ n + 2000 < LIM ∧ ¬ S s ∧ Rep S H (gmD g) v ∧ GvOk g ∧
  ∀ H' w (sums : List (List Str × Bool)), SameS s H H' → Rep (fun a => H a = none) H' (.lst (sums.map sumD)) w → (∀ o ∈ sums, o.1.Sublist g.names) → sums.length ≤ 4 → Strm H' s (n + 2000) → Q w H'
theorem ok_dn (B : Bt mg) (N : Dn K mg "_law_drawn" sDn ["stream", "game"]) (NS : Dn K mg "_law_o_sums" sOss ["stream", "names", "many"]) (NO : Dn K mg "_law_o_sum" sOs ["stream", "names"]) (NA : Dn K mg "_law_o_added" sOa ["names", "sums", "lot"]) (NP : Dn K mg "_law_pick" sPick ["well", "some"]) (NM : Dn K mg "_law_mixed" sMixed ["well", "some"]) (ND : Dn K mg "_law_draw" sDraw ["well", "many"]) :
    FnOk P w K mg base CX0 5 N.f N.fd ["stream", "game"] spDn := by
  have GS : FnOk P w K mg base CX0 4 NS.f NS.fd ["stream", "names", "many"] spOss := ok_oss B NS NO NA NP NM ND
  have GD : FnOk P w K mg base CX0 1 ND.f ND.fd ["well", "many"] spDraw := ok_draw B ND
  refine N.F.ok scDn (fun vs H Q E h => ?_) (fun cdv A outer s H vs Q E hr h => ?_)
  · obtain ⟨S, s, n, g, v, rfl, _⟩ := h
    rfl
  · obtain ⟨S, a, n, g, v, rfl, hs, hn, nSa, hg, gok, k⟩ := h
    have hu := hu_of hr
    refine ⟨_, pss_cons (ps_par (i := 2) (j := 3) (by rfl) scDn.nd rfl rfl (by decide) rfl rfl (pa_cons (pe_callTy (call_dictP rfl) (by rfl) B.dict PyProof.Rows.boot_dict (pa_cons (pe_ix ix_seqA (pv 1) pe_int (fun _ _ => rfl)) pa_nil)) (pa_cons (pe_lst pa_nil) pa_nil)) (by rfl))
      (pss_cons (ps_setLc (i := 4) (own := [("mark", 6), ("what", 7)]) (g := gTup K 2 (gCons (gName 6) (gCons (gName 7) gNil))) (tt := tYes) (te := tVar 6) (by rfl) scDn.nd rfl rfl (sw_true rfl rfl rfl (by decide +kernel)) (pi_list (pe_op op_cat (pe_ix ix_seqA (pv 1) pe_int (fun _ _ => rfl)) (pe_ix ix_seqA (pv 1) pe_int (fun _ _ => rfl)))) (blkOk_by (own := [("mark", 6), ("what", 7)]) (N := nDn) (sc := defScope sDn) (by decide +kernel))
          (fun _ _ _ _ _ => pg_tup (by rfl) (pgs_cons (pg_name (i := 6) scDn.nd (by rfl) (Or.inl (by rfl)) (by exact .inr rfl)) (pgs_cons (pg_name (i := 7) scDn.nd (by rfl) (Or.inl (by rfl)) (by exact .inr rfl)) pgs_nil)))
          (fun _ _ _ _ _ => pts_nil) (fun _ _ _ _ _ => pv 6))
      (pss_cons (ps_for PassesOwn.never rfl (pi_list (pe_call GS (hr.mono (by decide)) (by rfl) NS.g NS.F.kp NS.b .nil pass0 (pa_cons (pv 0) (pa_cons (pv 4) (pa_cons (pe_call GD (hr.mono (by decide)) (by rfl) ND.g ND.F.kp ND.b .nil pass0 (pa_cons (pv 0) (pa_cons pe_int pa_nil))) pa_nil))))) (pg_name (i := 5) scDn.nd rfl (Or.inl rfl))
        (pss_cons (ps_while PassesOwn.never (PW.pt (pw_and (pt_cmpR (op_neD hr.units) (pe_ix ix_seqA (pv 5) pe_int (fun _ _ => rfl)) (pe_lst pa_nil) (by rfl))
            (pw_and (pt_cmpR op_eq (pe_dget2 hu (pv 2) (pe_ix ix_seqA (pe_ix ix_seqA (pv 5) pe_int (fun _ _ => rfl)) (pe_un un_neg pe_int) (fun _ _ => rfl)) pe_str ⟨rfl, rfl, rfl, rfl⟩) pe_str (nomark _))
              (pw_and1 (pt_cmp (pc_gt (pe_call GD (hr.mono (by decide)) (by rfl) ND.g ND.F.kp ND.b .nil pass0 (pa_cons (pv 0) (pa_cons pe_int pa_nil))) pe_int) (by rfl))))))
          (pss_one (ps_set (i := 5) scDn.nd rfl (Or.inl rfl) (pe_tup (pa_cons (pe_slice sl_list (pe_ix ix_seqA (pv 5) pe_int (fun _ _ => rfl)) po_none (po_some (pe_un un_neg pe_int))) (pa_cons (pe_ix ix_seqA (pv 5) pe_int (fun _ _ => rfl)) pa_nil))))))
        (pss_one (ps_expr (pe_bm PySem.F.plainAttrs_list PySem.F.slot_list_append PySem.F.type_list_append mt_append (pv 3) (pa_cons (pv 5) pa_nil))))))
      (pss_one (ps_ret (pv 3))))), ?_⟩
    obtain ⟨u0, hu0⟩ := hs.lst
    have nHa : ¬ (H a = none) := fun z => by rw [hu0] at z; cases z
    obtain ⟨ga, us, rfl, hga, rr⟩ := id hg
    obtain ⟨vk, _, rfl, rk, vt, _, rfl, rt, vn, _, rfl, rn, vr, _, rfl, rr4, rfl⟩ := rr
    obtain ⟨lk, uk, rfl, slk, hk, ruk⟩ := rk
    obtain ⟨lt, ut, rfl, slt, ht, rut⟩ := rt
    have nka : lk ≠ a := fun z => nSa (z ▸ slk)
    have nta : lt ≠ a := fun z => nSa (z ▸ slt)
    obtain ⟨ps, rfl, hps⟩ := paired_hnd (K := K) rut
    have k4 := gok.k4
    have t4 := gok.t4
    have t1 := gok.t1
    have lnm : g.names.length = g.ks.length + g.ts.length := by unfold Gv.names; rw [List.length_append, List.length_map, List.length_map]
    have nok : ∀ m ∈ g.names, PyData.strOk m = true := fun m hm => gNames_ok m (gok.nm m hm)
    refine ⟨_, rfl, ga, _, 1, .ref lt, rfl, rfl, .inr (SqT.of hga), atI_nat (j := 1) rfl, lt, ps, _, rfl, SqL.of ht, hps, fun dH hdH => ?_⟩
    have s1 : Same H (upd H dH (.dK (mergeK [] (g.ts.map fun t => ((Sum.inr t.1 : Key), V.str t.2))))) := Same.new hdH
    have hd1 : upd H dH (.dK (mergeK [] (g.ts.map fun t => ((Sum.inr t.1 : Key), V.str t.2)))) dH = some (.dK (mergeK [] (g.ts.map fun t => ((Sum.inr t.1 : Key), V.str t.2)))) := upd_same
    have hvals : ∀ k v, valV (mergeK [] (g.ts.map fun t => ((Sum.inr t.1 : Key), V.str t.2))) k = some v → ∃ z, v = .str z := merge_vals _ [] (fun k v e => by cases e) fun kv hkv => by
      obtain ⟨t, _, rfl⟩ := List.mem_map.mp hkv
      exact ⟨t.2, rfl⟩
    generalize upd H dH (.dK (mergeK [] (g.ts.map fun t => ((Sum.inr t.1 : Key), V.str t.2)))) = H1 at s1 hd1 ⊢
    generalize mergeK [] (g.ts.map fun t => ((Sum.inr t.1 : Key), V.str t.2)) = kvs at hd1 hvals
    refine ⟨Nat.zero_le _, fun lF hlF => ⟨_, _, rfl, ?_⟩⟩
    have s2 : Same H1 (upd H1 lF (.lst [])) := Same.new hlF
    have hF2 : upd H1 lF (.lst []) lF = some (.lst []) := upd_same
    have hFH : H lF = none := s1.free hlF
    have nFa : lF ≠ a := fun z => nHa (z ▸ hFH)
    have nFd : dH ≠ lF := fun z => by rw [← z, hd1] at hlF; cases hlF
    generalize upd H1 lF (.lst []) = H2 at s2 hF2 ⊢
    have s02 := s1.trans s2
    have hd2 := s2 _ _ hd1
    -- names
    refine ⟨_, rfl, ga, _, 0, .ref lk, rfl, rfl, .inr (SqT.of (s02 _ _ hga)), atI_nat (j := 0) rfl, _, rfl, ga, _, 1, .ref lt, rfl, rfl, .inr (SqT.of (s02 _ _ hga)), atI_nat (j := 1) rfl, lk, lt, _, _, rfl, rfl, s02 _ _ hk, s02 _ _ ht, ?_, fun lA hlA => ?_⟩
    · have l1 := ruk.length
      rw [List.length_map] at l1
      have l2 := rut.length
      rw [List.length_map, List.length_map] at l2
      rw [List.length_map]
      exact Nat.le_trans (show uk.length + ps.length ≤ 100 by omega) (by decide)
    have s3 : Same H2 (upd H2 lA (.lst (uk ++ ps.map V.ref))) := Same.new hlA
    have hA3 : upd H2 lA (.lst (uk ++ ps.map V.ref)) lA = some (.lst (uk ++ ps.map V.ref)) := upd_same
    have rA : Reps S H g.ds (uk ++ ps.map V.ref) := Reps.append ruk rut
    generalize upd H2 lA (.lst (uk ++ ps.map V.ref)) = H3 at s3 hA3 ⊢
    generalize uk ++ ps.map V.ref = uA at hA3 rA
    have s03 := s02.trans s3
    have luA := rA.length
    have lds : g.ds.length = g.names.length := by rw [← ds_first, List.length_map]
    refine ⟨lA, rfl, ⟨_, SqL.of hA3⟩, fun lN hlN => ?_⟩
    refine lc_list (K := K) (a := lA) (xs := uA) (fun i H' => Same H3 H' ∧ H' lN = some (.lst ((g.names.take i).map V.str))) ⟨Same.new hlN, upd_same⟩ (fun i H' _ h => SqL.of (h.1 _ _ hA3)) ?_ ?_
    · rintro i x H' hx ⟨sm', hz⟩
      obtain ⟨dx, hdx, hrx⟩ := (rA.same (s03.trans sm')).get hx
      obtain ⟨q, e⟩ := ds_pair g dx (List.mem_of_getElem? hdx)
      have en : g.names[i]? = some (firstS dx) := by rw [← ds_first, List.getElem?_map, hdx]; rfl
      have hil := (List.getElem?_eq_some_iff.mp en).1
      generalize firstS dx = m at e en
      subst e
      obtain ⟨p, up, rfl, hp, rp⟩ := hrx
      obtain ⟨v1, _, rfl, r1, v2, _, rfl, r2, rfl⟩ := rp
      cases (show v1 = .str m from r1)
      refine ⟨p, _, rfl, SqT.of hp, rfl, ?_⟩
      refine ⟨_, _, rfl, _, _, rfl, rfl, ?_⟩
      refine ⟨rfl, ?_⟩
      unfold tYes
      refine iteT ?_
      refine ⟨_, rfl, _, hz, ?_, Same.at sm' hlN, ?_⟩
      · rw [List.length_map, List.length_take]
        exact Nat.lt_of_le_of_lt (show min i g.names.length ≤ 20 by omega) (by decide)
      · rw [upd_same, List.take_add_one, en, List.map_append]
        rfl
    rintro H4 ⟨s4, hN⟩
    rw [luA, lds, List.take_length] at hN
    have s04 := s03.trans s4
    have hs4 := hs.same s04
    have hd4 := (s3.trans s4) _ _ hd2
    have hF4 := (s3.trans s4) _ _ hF2
    have nNa : lN ≠ a := fun z => by
      rw [z] at hlN
      exact nHa (s03.free hlN)
    have nNF : lN ≠ lF := fun z => by rw [z, s3 _ _ hF2] at hlN; cases hlN
    -- the sums
    refine ⟨_, rfl, _, rfl, _, rfl, a, n, 5, rfl, hs4, by omega, by decide, by decide, fun u1 m hm hs5 => ?_⟩
    have s5 : SameS a H4 (upd H4 a (.lst u1)) := (SameS.refl H4).upd
    have hN5 := s5 _ _ nNa hN
    have hF5 := s5 _ _ nFa hF4
    have nda : dH ≠ a := fun z => by rw [z] at hdH; exact nHa hdH
    have hd5 := s5 _ _ nda hd4
    have sm05 : SameS a H (upd H4 a (.lst u1)) := (SameS.of s04).trans s5
    generalize upd H4 a (.lst u1) = H5 at s5 hN5 hF5 hd5 sm05 hs5 ⊢
    refine ⟨a, lN, n + 1, m, g.names, rfl, hs5, by omega, hN5, nNa, by omega, by omega, by omega, fun H6 w0 sums s6 rS ls hsub hs6 => ?_⟩
    obtain ⟨lS, vS, rfl, fS, hS, rvS⟩ := rS
    obtain ⟨u5, hu5⟩ := hs5.lst
    have nSF : lS ≠ lF := fun z => by
      have fS : H5 lS = none := fS
      rw [z, hF5] at fS
      cases fS
    have nSa' : lS ≠ a := fun z => by
      have fS : H5 lS = none := fS
      rw [z, hu5] at fS
      cases fS
    have rvS : Reps (fun b => H b = none ∧ b ≠ lF) H6 (sums.map sumD) vS := Reps.mono (fun b hb => ⟨sm05.none (fun z => by
      have hb : H5 b = none := hb
      rw [z, hu5] at hb
      cases hb) hb, fun z => by
      have hb : H5 b = none := hb
      rw [z, hF5] at hb
      cases hb⟩) (stay_of (Same.refl H6)) rvS
    have lvS := rvS.length
    rw [List.length_map] at lvS
    have sm06 := sm05.trans s6
    have hF6 := s6 _ _ nFa hF5
    have hd6 := s6 _ _ nda hd5
    refine ⟨lS, rfl, ⟨_, SqL.of hS⟩, for_list (K := K) (a := lS) (xs := vS) (fun i σ H' => ∃ (o5 : Option V) (us : List V) (res : List (List Str × Bool)), σ = [some (.ref a), some (.ref ga), some (.ref dH), some (.ref lF), some (.ref lN), o5, none, none] ∧ SameS a H H' ∧ H' lS = some (.lst vS) ∧ Reps (fun b => H b = none ∧ b ≠ lF) H' (sums.map sumD) vS ∧ H' lF = some (.lst us) ∧ Reps (fun b => H b = none ∧ b ≠ lF) H' (res.map sumD) us ∧ res.length = i ∧ (∀ o ∈ res, o.1.Sublist g.names) ∧ Strm H' a (n + 1001 + 20 * i) ∧ H' dH = some (.dK kvs))
      ⟨_, [], [], rfl, sm06, hS, rvS, hF6, rfl, rfl, (fun o ho => by cases ho), hs6, hd6⟩ (fun i σ H' _ ⟨_, _, _, _, _, h, _⟩ => SqL.of h) ?_ ?_⟩
    · rintro i x σ H' hx ⟨o5, us, res, rfl, sm, hS', rv', hF', ru', lres, hres, hs', hd'⟩
      obtain ⟨dx, hdx, hrx⟩ := rv'.get hx
      rw [List.getElem?_map] at hdx
      cases qo : sums[i]? with
      | none => rw [qo] at hdx; cases hdx
      | some o =>
      rw [qo] at hdx
      cases hdx
      have hil := (List.getElem?_eq_some_iff.mp qo).1
      have oN := hsub o (List.mem_of_getElem? qo)
      have ol := oN.length_le
      dsimp only
      refine tSeq_two (R := fun σ H2 => ∃ (x : V) (o : List Str × Bool), σ = [some (.ref a), some (.ref ga), some (.ref dH), some (.ref lF), some (.ref lN), some x, none, none] ∧ SameS a H H2 ∧ H2 lS = some (.lst vS) ∧ Reps (fun b => H b = none ∧ b ≠ lF) H2 (sums.map sumD) vS ∧ H2 lF = some (.lst us) ∧ Reps (fun b => H b = none ∧ b ≠ lF) H2 (res.map sumD) us ∧ Rep (fun b => H b = none ∧ b ≠ lF) H2 (sumD o) x ∧ o.1.Sublist g.names ∧ Strm H2 a (n + 1001 + 20 * i + 20) ∧ H2 dH = some (.dK kvs)) (fun D' hD => ?_) ?_
      · refine ⟨fun mm σ H2 => ∃ (x : V) (o : List Str × Bool), mm = o.1.length ∧ σ = [some (.ref a), some (.ref ga), some (.ref dH), some (.ref lF), some (.ref lN), some x, none, none] ∧ SameS a H H2 ∧ H2 lS = some (.lst vS) ∧ Reps (fun b => H b = none ∧ b ≠ lF) H2 (sums.map sumD) vS ∧ H2 lF = some (.lst us) ∧ Reps (fun b => H b = none ∧ b ≠ lF) H2 (res.map sumD) us ∧ Rep (fun b => H b = none ∧ b ≠ lF) H2 (sumD o) x ∧ o.1.Sublist g.names ∧ o.1.length ≤ 8 ∧ Strm H2 a (n + 1001 + 20 * i + 8 - o.1.length) ∧ H2 dH = some (.dK kvs), ⟨_, x, o, rfl, rfl, sm, hS', rv', hF', ru', hrx, oN, by omega, hs'.mono (by omega), hd'⟩, ?_⟩
        rintro mm σ H2 ⟨x, o, rfl, rfl, sm2, hS2, rv2, hF2', ru2, rx2, oN2, ol2, hs2, hd2'⟩
        have stop : ∀ H3, Same H2 H3 → D'.nx [some (.ref a), some (.ref ga), some (.ref dH), some (.ref lF), some (.ref lN), some x, none, none] H3 := fun H3 s3 =>
          hD _ _ ⟨x, o, rfl, sm2.trans (SameS.of s3), s3 _ _ hS2, rv2.same s3, s3 _ _ hF2', ru2.same s3, rx2.same s3, oN2, (hs2.same s3).mono (by omega), s3 _ _ hd2'⟩
        have rx2b := rx2
        obtain ⟨t, l, rfl, ht', hl'⟩ := sum_at rx2
        have onk : ∀ m ∈ o.1, PyData.strOk m = true := fun m hm => nok m (oN2.subset hm)
        refine ⟨_, rfl, t, _, 0, .ref l, rfl, rfl, .inr (SqT.of ht'), atI_nat (j := 0) rfl, Nat.zero_le _, fun pp hpp => ?_⟩
        have s3 : Same H2 (upd H2 pp (.lst [])) := Same.new hpp
        refine ne_nil_strs (s3 _ _ hl') upd_same onk ⟨_, rfl, ?_⟩
        cases e : o.1.getLast? with
        | none =>
          have : o.1 = [] := List.getLast?_eq_none_iff.mp e
          rw [decide_eq_true this]
          exact iteF (stop _ s3)
        | some z =>
          have ne : ¬ o.1 = [] := fun q => by rw [q] at e; cases e
          rw [decide_eq_false ne]
          refine iteT ?_
          generalize upd H2 pp (.lst []) = H3 at s3 ⊢
          have ht3 := s3 _ _ ht'
          have hl3 := s3 _ _ hl'
          have hd3 := s3 _ _ hd2'
          have hv : ∃ zz, (valV kvs (Sum.inr z)).getD (.str "we") = .str zz := by
            cases ev : valV kvs (Sum.inr z) with
            | none => exact ⟨_, rfl⟩
            | some v =>
              obtain ⟨y, rfl⟩ := hvals _ _ ev
              exact ⟨y, rfl⟩
          obtain ⟨zz, ezz⟩ := hv
          refine ⟨_, rfl, dH, rfl, .inl ⟨_, .inl hd3⟩, _, rfl, t, _, 0, .ref l, rfl, rfl, .inr (SqT.of ht3), atI_nat (j := 0) rfl, 1, rfl, l, _, -1, .str z, rfl, rfl, .inl (SqL.of hl3), last_strs e, _, DGet.k (k := Sum.inr z) hd3, ?_⟩
          rw [ezz]
          refine ⟨rfl, _, rfl, ?_⟩
          refine ite2 (fun _ => ?_) (fun _ => iteF (stop _ s3))
          have ol1 : 1 ≤ o.1.length := List.length_pos_iff.mpr ne
          refine ⟨_, rfl, a, n + 1001 + 20 * i + 8 - o.1.length, 6, rfl, hs2.same s3, by omega, by decide, by decide, fun u d hd hs4 => ⟨_, _, rfl, rfl, _, rfl, ?_⟩⟩
          have sS : SameS a H2 (upd H3 a (.lst u)) := (SameS.of s3).upd
          obtain ⟨u2, hu2⟩ := hs2.lst
          have nS0 : ¬ (H a = none ∧ a ≠ lF) := fun z => nHa z.1
          have sm4 := sm2.trans sS
          have hS4 := sS _ _ nSa' hS2
          have rv4 := sameS_reps sS hs2 nS0 rv2
          have hF4' := sS _ _ nFa hF2'
          have ru4 := sameS_reps sS hs2 nS0 ru2
          have rx4 := sameS_rep sS hs2 nS0 rx2b
          have hd4' := sS _ _ nda hd2'
          generalize upd H3 a (.lst u) = H7 at sS sm4 hS4 rv4 hF4' ru4 rx4 hd4' hs4 ⊢
          refine ite2 (fun _ => ?_) (fun _ => ?_)
          · refine ⟨fun σ' H' => ∃ m', m' < o.1.length ∧ ∃ (x : V) (o : List Str × Bool), m' = o.1.length ∧ σ' = [some (.ref a), some (.ref ga), some (.ref dH), some (.ref lF), some (.ref lN), some x, none, none] ∧ SameS a H H' ∧ H' lS = some (.lst vS) ∧ Reps (fun b => H b = none ∧ b ≠ lF) H' (sums.map sumD) vS ∧ H' lF = some (.lst us) ∧ Reps (fun b => H b = none ∧ b ≠ lF) H' (res.map sumD) us ∧ Rep (fun b => H b = none ∧ b ≠ lF) H' (sumD o) x ∧ o.1.Sublist g.names ∧ o.1.length ≤ 8 ∧ Strm H' a (n + 1001 + 20 * i + 8 - o.1.length) ∧ H' dH = some (.dK kvs), fun _ _ h => h, ?_⟩
            obtain ⟨t, l, e, ht', hl'⟩ := sum_at rx4
            cases e
            refine ⟨_, rfl, t, _, 0, .ref l, rfl, rfl, .inr (SqT.of ht'), atI_nat (j := 0) rfl, ?_⟩
            refine ⟨1, rfl, -1, rfl, l, _, rfl, SqL.of hl', fun q hq => ?_⟩
            rw [cutV_init, ← List.map_dropLast]
            have s8 : Same H7 (upd H7 q (.lst (o.1.dropLast.map V.str))) := Same.new hq
            have hq8 : upd H7 q (.lst (o.1.dropLast.map V.str)) q = some (.lst (o.1.dropLast.map V.str)) := upd_same
            have qH : H q = none := sm4.none (fun z => by
              obtain ⟨u, hu⟩ := hs4.lst
              rw [z, hu] at hq
              cases hq) hq
            have nqF : q ≠ lF := fun z => by rw [z, hF4'] at hq; cases hq
            generalize upd H7 q (.lst (o.1.dropLast.map V.str)) = H8 at s8 hq8 ⊢
            refine ⟨_, rfl, t, _, 1, .bl o.2, rfl, rfl, .inr (SqT.of (s8 _ _ ht')), atI_nat (j := 1) rfl, by show 2 ≤ sizeLine; decide, fun t2 ht2 => ?_⟩
            have s9 : Same H8 (upd H8 t2 (.tup [.ref q, .bl o.2])) := Same.new ht2
            have s79 := s8.trans s9
            have ld : o.1.dropLast.length = o.1.length - 1 := List.length_dropLast
            exact ⟨_, by rw [ld]; omega, .ref t2, (o.1.dropLast, o.2), rfl, rfl, sm4.trans (SameS.of s79), s79 _ _ hS4, rv4.same s79, s79 _ _ hF4', ru4.same s79, ⟨t2, _, rfl, upd_same, .ref q, _, rfl, ⟨q, _, rfl, ⟨qH, nqF⟩, s9 _ _ hq8, reps_strs _ _ _⟩, .bl o.2, _, rfl, rfl, rfl⟩, sub_init oN2, by show o.1.dropLast.length ≤ 8; omega, (hs4.same s79).mono (by show _ ≤ n + 1001 + 20 * i + 8 - o.1.dropLast.length; omega), s79 _ _ hd4'⟩
          · exact hD _ _ ⟨_, o, rfl, sm4, hS4, rv4, hF4', ru4, rx4, oN2, hs4.mono (by omega), hd4'⟩
      · rintro σ H2 ⟨x, o, rfl, sm2, hS2, rv2, hF2', ru2, rx2, oN2, hs2, hd2'⟩
        have lus := ru2.length
        rw [List.length_map] at lus
        refine ⟨_, rfl, .inl ⟨rfl, _, SqL.of hF2'⟩, _, rfl, lF, _, _, rfl, rfl, hF2', Nat.lt_of_le_of_lt (show us.length ≤ 10 by omega) (by decide), ?_⟩
        have st : Stay (fun b => H b = none ∧ b ≠ lF) H2 (upd H2 lF (.lst (us ++ [x]))) := stay_upd hF2' (nd_lst fun z => z.2 rfl)
        refine ⟨_, us ++ [x], res ++ [o], rfl, sm2.at hFH, by rw [upd_ne nSF]; exact hS2, Reps.mono (fun _ z => z) st rv2, upd_same, ?_, by rw [List.length_append, lres]; rfl, fun y hy => ?_, (hs2.mono (by omega)).at nFa, by rw [upd_ne nFd]; exact hd2'⟩
        · rw [List.map_append]
          exact Reps.append (Reps.mono (fun _ z => z) st ru2) (Reps.one (Rep.mono (fun _ z => z) st rx2))
        · rcases List.mem_append.mp hy with hy | hy
          · exact hres y hy
          · rw [List.mem_singleton.mp hy]
            exact oN2
    · rintro σ H' ⟨o5, us, res, rfl, sm, hS', rv', hF', ru', lres, hres, hs', hd'⟩
      exact ⟨_, rfl, k H' (.ref lF) res sm ⟨lF, us, rfl, hFH, hF', Reps.mono (fun _ z => z.1) (stay_of (Same.refl H')) ru'⟩ hres (by omega) (hs'.mono (by omega))⟩
end
end Q1
set_option Elab.async false
set_option linter.all false
set_option maxRecDepth 100000
set_option maxHeartbeats 4000000
namespace Q1
open PySem L2 LamX
/-! ### truths by names -/
def valM (names : List Str) (row : List Bool) (m : Str) : Bool := row.getD (names.idxOf m) false
def kvR (names : List Str) (row : List Bool) : List (Key × V) := (names.zip row).map fun p => (Sum.inr p.1, V.bl p.2)
theorem kvR_get : ∀ {names : List Str} {row : List Bool} {m : Str}, names.idxOf m < row.length → m ∈ names → valV (kvR names row) (Sum.inr m) = some (.bl (valM names row m))
  | [], _, _, _, h => by cases h
  | _ :: _, [], _, h, _ => by simp at h
  | x :: xs, b :: bs, m, h, hm => by
    show valV ((Sum.inr x, V.bl b) :: kvR xs bs) (Sum.inr m) = _
    by_cases e : x = m
    · subst e
      rw [valV_pos rfl]
      unfold valM
      rw [List.idxOf_cons_self]
      rfl
    · rw [valV_neg (fun z => e (Sum.inr.inj z))]
      have ei : (x :: xs).idxOf m = xs.idxOf m + 1 := by
        rw [List.idxOf_cons, show (x == m) = false from beq_eq_false_iff_ne.mpr e]
        rfl
      rw [ei] at h
      rw [kvR_get (by simpa using h) ((List.mem_cons.mp hm).resolve_left (Ne.symm e))]
      unfold valM
      rw [ei]
      rfl
theorem kvR_snoc (s : Bool) : ∀ {names : List Str} {row : List Bool} {m : Str}, names[row.length]? = some m → kvR names (row ++ [s]) = kvR names row ++ [(Sum.inr m, V.bl s)]
  | [], _, _, h => by simp at h
  | x :: xs, [], m, h => by
    cases (show some x = some m from h)
    cases xs <;> rfl
  | x :: xs, b :: bs, m, h => by
    show (Sum.inr x, V.bl b) :: kvR xs (bs ++ [s]) = (Sum.inr x, V.bl b) :: (kvR xs bs ++ [(Sum.inr m, V.bl s)])
    rw [kvR_snoc s (names := xs) (row := bs) (m := m) (by simpa using h)]
theorem zip_fst {α β : Type} : ∀ (a : List α) (b : List β), (a.zip b).map Prod.fst = a.take b.length
  | [], b => by cases b <;> rfl
  | x :: a, [] => rfl
  | x :: a, y :: b => by
    show x :: (a.zip b).map Prod.fst = x :: a.take b.length
    rw [zip_fst a b]
theorem kvR_keys (names : List Str) (row : List Bool) : (kvR names row).map (·.1) = (names.take row.length).map Sum.inr := by
  unfold kvR
  rw [List.map_map]
  have : ((fun x : Key × V => x.1) ∘ fun p : Str × Bool => ((Sum.inr p.1 : Key), V.bl p.2)) = Sum.inr ∘ Prod.fst := rfl
  rw [this, ← List.map_map, zip_fst]
theorem kvR_len {names : List Str} {row : List Bool} (h : row.length ≤ names.length) : (kvR names row).length = row.length := by
  unfold kvR
  rw [List.length_map, List.length_zip]
  omega
theorem valV_absent {k : Key} : ∀ {kvs : List (Key × V)}, (∀ kv ∈ kvs, kv.1 ≠ k) → valV kvs k = none
  | [], _ => rfl
  | kv :: kvs, h => by
    rw [valV_neg (h kv List.mem_cons_self), valV_absent fun x hx => h x (List.mem_cons_of_mem _ hx)]
theorem merge_new : ∀ (more acc : List (Key × V)), ((acc ++ more).map (·.1)).Nodup → mergeK acc more = acc ++ more
  | [], acc, _ => (List.append_nil acc).symm
  | kv :: more, acc, h => by
    have e : putK acc kv.1 kv.2 = acc ++ [kv] := put_new (valV_absent fun x hx z => by
      rw [List.map_append, List.nodup_append] at h
      exact h.2.2 x.1 (List.mem_map_of_mem hx) kv.1 (List.mem_map_of_mem List.mem_cons_self) z)
    show mergeK (putK acc kv.1 kv.2) more = _
    rw [e, merge_new more (acc ++ [kv]) (by rw [List.append_assoc]; exact h), List.append_assoc]
    rfl
theorem kvR_merge {names : List Str} (nd : names.Nodup) (row : List Bool) : mergeK [] (kvR names row) = kvR names row := by
  rw [merge_new (kvR names row) [] ?_]
  · rfl
  · show ((kvR names row).map (·.1)).Nodup
    rw [kvR_keys]
    exact List.Pairwise.map _ (fun a b (h : a ≠ b) z => h (Sum.inr.inj z)) (List.Sublist.nodup (List.take_sublist _ _) nd)
theorem kvR_zip (names : List Str) (row : List Bool) : (names.map (Sum.inr : Str → Key)).zip (row.map V.bl) = kvR names row := by
  unfold kvR
  rw [List.zip_map]
  rfl
theorem eqv_bls : ∀ ms ns : List Bool, PyData.eqvAll (pys (ms.map D.bl)) (pys (ns.map D.bl)) = decide (ms = ns)
  | [], [] => rfl
  | [], _ :: _ => rfl
  | _ :: _, [] => rfl
  | m :: ms, n :: ns => by
    have ih := eqv_bls ms ns
    show ((m == n) && PyData.eqvAll (pys (ms.map D.bl)) (pys (ns.map D.bl))) = _
    rw [ih, Bool.eq_iff_iff]
    simp
theorem oks_bls (n : Nat) : ∀ ms : List Bool, oks n (ms.map D.bl)
  | [] => trivial
  | m :: ms => ⟨by cases n <;> simp only [D.ok], oks_bls n ms⟩
theorem rows_ok : ∀ S : List (List Bool), oks 1 (S.map rowD)
  | [] => trivial
  | r :: S => ⟨oks_bls 0 r, rows_ok S⟩
theorem any_row (r : List Bool) : ∀ S : List (List Bool), ((pys (S.map rowD)).any fun z => PyData.eqv z (rowD r).py) = decide (r ∈ S)
  | [] => by simp [pys]
  | x :: S => by
    show (PyData.eqvAll (pys (x.map D.bl)) (pys (r.map D.bl)) || (pys (S.map rowD)).any fun z => PyData.eqv z (rowD r).py) = _
    rw [eqv_bls, any_row r S, Bool.eq_iff_iff, Bool.or_eq_true, decide_eq_true_iff, decide_eq_true_iff, decide_eq_true_iff, List.mem_cons]
    exact ⟨fun h => h.imp (fun z => z.symm) id, fun h => h.imp (fun z => z.symm) id⟩
def sumInv : D → List Str × Bool
  | .tup [.lst xs, .bl b] => (xs.map strOf, b)
  | _ => ([], false)
theorem sumInv_sum (o : List Str × Bool) : sumInv (sumD o) = o := by
  show ((o.1.map D.str).map strOf, o.2) = o
  rw [List.map_map]
  have : (strOf ∘ D.str) = id := rfl
  rw [this, List.map_id]
/-- the law's end of a round -/
def endM (g : Gv) (sums : List (List Str × Bool)) (S : List (List Bool)) (full : List Bool) : Bool := sums.all (fun o => oddV (valM g.names full) o) && decide (g.ns.map (valM g.names full) ∈ S)
def Gv.hands (g : Gv) : List Str := g.ts.map Prod.snd
def rDictP (K : PySem.W.Frag) : List V → Hp → VK → Prop := fun xs H Q => ∃ (a : Addr) (ps : List Addr) (kvs : List (Key × V)), xs = [.ref a] ∧ SqL K H a (ps.map V.ref) ∧ Paired (fun p kv => SqT K H p [kV kv.1, kv.2]) ps kvs ∧
    ∀ p, H p = none → Q (.ref p) (upd H p (.dK (mergeK [] kvs)))
theorem call_dictPK {X : Cx} (hc : X.calm = true) : CallR X (.type "dict") (rDictP X.K) := call_dictP hc
theorem paired_app {α β : Type} {R : α → β → Prop} : ∀ {as : List α} {bs : List β} {a : α} {b : β}, Paired R as bs → R a b → Paired R (as ++ [a]) (bs ++ [b])
  | _, _, _, _, .nil, h => .cons h .nil
  | _, _, _, _, .cons x t, h => .cons x (paired_app t h)
theorem paired_imp {α β : Type} {R R2 : α → β → Prop} (h : ∀ a b, R a b → R2 a b) : ∀ {as : List α} {bs : List β}, Paired R as bs → Paired R2 as bs
  | _, _, .nil => .nil
  | _, _, .cons x t => .cons (h _ _ x) (paired_imp h t)
theorem int_eq (a b : Nat) : decide (V.int (a : Nat) = V.int (b : Nat)) = decide (a = b) := by
  rw [Bool.eq_iff_iff, decide_eq_true_iff, decide_eq_true_iff]
  exact ⟨fun h => by injection h with h; omega, fun h => by rw [h]⟩
section
variable {P : Program} {w : World} {K : PySem.W.Frag} {mg : Str → Option Value} {base : Heap}
/-! ### _law_can -/
abbrev sCan : Stmt := top 52
abbrev nCan : List Str := ["game", "sums", "truths", "states", "kept", "turns", "nexts", "rules", "at", "mark", "hand", "found", "one", "name", "side"]
theorem scCan : FnScope nCan ["game", "sums", "truths", "states"] (defScope sCan) := ⟨rfl, rfl, rfl, by decide +kernel, rfl, by decide +kernel, by decide +kernel⟩
def spCan : Nat → Sp
  | 0 => fun _ _ _ _ => False
  | r + 1 => fun vs H Q _ => ∃ (S1 S2 S3 : Addr → Prop) (g : Gv) (vg vu : V) (td lT : Addr) (sums : List (List Str × Bool)) (row : List Bool) (S : List (List Bool)), vs = [vg, vu, .ref td, .ref lT] ∧ Rep S1 H (gmD g) vg ∧ GvOk g ∧ Rep S2 H (.lst (sums.map sumD)) vu ∧ sums.length ≤ 4 ∧ (∀ o ∈ sums, o.1.Sublist g.names) ∧
    H td = some (.dK (kvR g.names row)) ∧ Rep S3 H (.lst (S.map rowD)) (.ref lT) ∧ g.ks.length ≤ row.length ∧ row.length ≤ g.names.length ∧ g.names.length ≤ row.length + r ∧
    ∀ H', Same H H' → Q (.bl (canM (endM g sums S) (g.hands.drop (row.length - g.ks.length)) row)) H'
theorem ok_can (B : Bt mg) (B2 : Bt2 mg) (N : Dn K mg "_law_can" sCan ["game", "sums", "truths", "states"]) (NH : Dn K mg "_law_o_holds" sOh ["one", "truths"]) : ∀ r, FnOk P w K mg base CX0 (r + 2) N.f N.fd ["game", "sums", "truths", "states"] (spCan r)
  | 0 => ⟨fun vs H Q E h => h.elim, fun A outer s H args us vs Q E hr he hb hv hs => hs.elim⟩
  | r + 1 => by
    have GR : FnOk P w K mg base CX0 (r + 2) N.f N.fd ["game", "sums", "truths", "states"] (spCan r) := ok_can B B2 N NH r
    have GH : FnOk P w K mg base CX0 1 NH.f NH.fd ["one", "truths"] spOh := ok_oh NH
    refine N.F.ok scCan (fun vs H Q E h => ?_) (fun cdv A outer s H vs Q E hr h => ?_)
    · obtain ⟨S1, S2, S3, g, vg, vu, td, lT, sums, row, S, rfl, _⟩ := h
      rfl
    · obtain ⟨S1, S2, S3, g, vg, vu, td, lT, sums, row, S, rfl, hg, gok, hu_, ls4, hsub, htd, hT, hrk, hrn, hrr, k⟩ := h
      have hu := hu_of hr
      refine ⟨_, pss_cons (ps_asg (pv 0) (pg_tup rfl (pgs_cons (pg_name (i := 4) scCan.nd rfl (Or.inl rfl)) (pgs_cons (pg_name (i := 5) scCan.nd rfl (Or.inl rfl)) (pgs_cons (pg_name (i := 6) scCan.nd rfl (Or.inl rfl)) (pgs_cons (pg_name (i := 7) scCan.nd rfl (Or.inl rfl)) pgs_nil))))))
        (pss_cons (ps_set (i := 8) scCan.nd rfl (Or.inl rfl) (pe_op op_sub (pe_callB call_lenD (by rfl) B.len boot_len (pa_cons (pv 2) pa_nil)) (pe_callB call_len_seq (by rfl) B.len boot_len (pa_cons (pv 4) pa_nil))))
        (pss_cons (ps_if (pt_cmpR op_eq (pv 8) (pe_callB call_len_seq (by rfl) B.len boot_len (pa_cons (pv 5) pa_nil)) (nomark _))
          (pss_one (ps_ret (pe_and (pe_callB (cr_all rfl) (by rfl) B.all PyProof.Rows.boot_all (pa_cons
              (pe_lc (own := [("one", 12)]) (g := gName 12) (tt := tYes) (te := tCall spOh [] E0 (tCons (tVar 12) (tCons (tVar 2) tNil))) rfl scCan.nd (pi_seq (pv 1)) (blkOk_by (own := [("one", 12)]) (N := nCan) (sc := defScope sCan) (by decide +kernel))
                (fun _ _ _ _ _ => pg_name (i := 12) scCan.nd rfl (Or.inl rfl)) (fun _ _ _ _ _ => pts_nil) (fun _ _ _ _ _ => pe_call GH (hr.mono (by omega)) (by rfl) NH.g NH.F.kp NH.b .nil pass0 (pa_cons (pv 12) (pa_cons (pv 2) pa_nil)))) pa_nil))
            (pe_one (pe_cmpR (op_inD (room65 hr))
              (pe_lc (own := [("name", 13)]) (g := gName 13) (tt := tYes) (te := tDGet (tVar 2) (tVar 13)) rfl scCan.nd (pi_seq (pv 6)) (blkOk_by (own := [("name", 13)]) (N := nCan) (sc := defScope sCan) (by decide +kernel))
                (fun _ _ _ _ _ => pg_name (i := 13) scCan.nd rfl (Or.inl rfl)) (fun _ _ _ _ _ => pts_nil) (fun _ _ _ _ _ => pe_dget hu (pv 2) (pv 13) (fun _ _ => rfl)))
              (pv 3) (by rfl)))))) pss_nil)
        (pss_cons (ps_asg (pe_ix ix_seqA (pv 5) (pv 8) (fun _ _ => rfl)) (pg_tup rfl (pgs_cons (pg_name (i := 9) scCan.nd rfl (Or.inr rfl)) (pgs_cons (pg_name (i := 10) scCan.nd rfl (Or.inl rfl)) pgs_nil))))
        (pss_cons (ps_setLc (i := 11) (own := [("side", 14)]) (g := gName 14) (tt := tYes) (te := tCall (spCan r) [] E0 (tCons (tVar 0) (tCons (tVar 1) (tCons (tCB (rDictP K) (tCons (tOp rCat (LiI.tListItems (tVar 2)) (tLst (tCons (tTup (tCons (tVar 9) (tCons (tVar 14) tNil))) tNil))) tNil)) (tCons (tVar 3) tNil))))) (by rfl) scCan.nd rfl rfl (sw_true rfl rfl rfl (by decide +kernel)) (pi_tup (pe_tup (pa_cons pe_bl (pa_cons pe_bl pa_nil)))) (blkOk_by (own := [("side", 14)]) (N := nCan) (sc := defScope sCan) (by decide +kernel))
            (fun _ _ _ _ _ => pg_name (i := 14) scCan.nd rfl (Or.inl rfl)) (fun _ _ _ _ _ => pts_nil)
            (fun _ _ _ _ _ => pe_call GR hr (by rfl) N.g N.F.kp N.b .nil pass0 (pa_cons (pv 0) (pa_cons (pv 1) (pa_cons (pe_callTy (call_dictPK rfl) (by rfl) B.dict PyProof.Rows.boot_dict (pa_cons (pe_op op_cat (LiI.pe_listItems rfl (pv 2) (by rfl) B.lst PyProof.Rows.boot_list) (pe_lst (pa_cons (pe_tup (pa_cons (pv 9) (pa_cons (pv 14) pa_nil))) pa_nil))) pa_nil)) (pa_cons (pv 3) pa_nil))))))
        (pss_one (ps_ret (pe_ifExp (pt_cmpR op_eq (pv 10) pe_str (nomark _)) (pe_callB (cr_any rfl) (by rfl) B2.any PyProof.Rows.boot_any (pa_cons (pv 11) pa_nil)) (pe_callB (cr_all rfl) (by rfl) B.all PyProof.Rows.boot_all (pa_cons (pv 11) pa_nil))))))))), ?_⟩
      obtain ⟨ga, us, rfl, hga, rr⟩ := id hg
      obtain ⟨vk, _, rfl, rk, vt, _, rfl, rt, vn, _, rfl, rn, vr, _, rfl, rr4, rfl⟩ := rr
      have rn0 := rn
      obtain ⟨lk, uk, rfl, slk, hk, ruk⟩ := rk
      obtain ⟨lt, ut, rfl, slt, ht, rut⟩ := rt
      obtain ⟨_, vS, e, sT, hT', rvS⟩ := id hT
      cases e
      have luk := ruk.length
      rw [List.length_map] at luk
      have lut := rut.length
      rw [List.length_map] at lut
      have k4 := gok.k4
      have t4 := gok.t4
      have lnm : g.names.length = g.ks.length + g.ts.length := by unfold Gv.names; rw [List.length_append, List.length_map, List.length_map]
      refine ⟨_, rfl, ga, _, rfl, SqT.of hga, rfl, ?_⟩
      refine ⟨_, _, rfl, _, _, rfl, _, _, rfl, _, _, rfl, rfl, ?_⟩
      refine ⟨_, rfl, td, _, rfl, htd, _, rfl, lk, uk, rfl, .inl (SqL.of hk), _, _, rfl, rfl, ?_⟩
      dsimp only
      rw [kvR_len hrn, luk, show ((row.length : Nat) : Int) - ((g.ks.length : Nat) : Int) = ((row.length - g.ks.length : Nat) : Int) by omega]
      refine ⟨_, rfl, _, rfl, lt, ut, rfl, .inl (SqL.of ht), rfl, _, rfl, ?_⟩
      rw [int_eq, lut]
      by_cases eat : row.length - g.ks.length = g.ts.length
      · rw [decide_eq_true eat]
        refine iteT ?_
        have erow : row.length = g.names.length := by omega
        have ehs : g.hands.drop (row.length - g.ks.length) = [] := List.drop_eq_nil_iff.mpr (by unfold Gv.hands; rw [List.length_map]; omega)
        rw [ehs] at k
        have hval : ∀ (H' : Hp), Same H H' → ∀ m ∈ g.names, valV (kvR g.names row) (Sum.inr m) = some (.bl (valM g.names row m)) := fun H' _ m hm => kvR_get (by rw [erow]; exact List.idxOf_lt_length_of_mem hm) hm
        refine all_lc (K := K) (S := S2) (σ := [some (.ref ga), some vu, some (.ref td), some (.ref lT), some (.ref lk), some (.ref lt), some vn, some vr, some (.int ((row.length - g.ks.length : Nat) : Int)), none, none, none, none, none, none]) (vs := [12]) (tl := tVar 1) (te := tCall spOh [] E0 (tCons (tVar 12) (tCons (tVar 2) tNil))) (g := gName 12) (d := .lst (sums.map sumD)) (ds := sums.map sumD) (v := vu) (fun dx => oddV (valM g.names row) (sumInv dx)) hu_ rfl (by rw [List.length_map]; omega) (fun R h => ⟨_, rfl, h⟩) (fun dx x H' R hm sm' hx kk => ?_) mono_name fun H1 s1 => ⟨_, rfl, ?_⟩
        · obtain ⟨o, ho, rfl⟩ := List.mem_map.mp hm
          rw [sumInv_sum] at kk
          exact ⟨rfl, _, rfl, _, rfl, S2, o, x, td, _, valM g.names row, rfl, hx, sm' _ _ htd, fun m hm => hval H' sm' m ((hsub o ho).subset hm), kk H' (Same.refl _)⟩
        have eall : (sums.map sumD).all (fun dx => oddV (valM g.names row) (sumInv dx)) = sums.all fun o => oddV (valM g.names row) o := by
          rw [List.all_map]
          congr 1
          funext o
          show oddV _ (sumInv (sumD o)) = _
          rw [sumInv_sum]
        rw [eall]
        have ecan : canM (endM g sums S) [] row = (sums.all (fun o => oddV (valM g.names row) o) && decide (g.ns.map (valM g.names row) ∈ S)) := rfl
        rw [ecan] at k
        cases ea : sums.all fun o => oddV (valM g.names row) o with
        | false =>
          refine iteF ?_
          have := k H1 s1
          rw [ea, Bool.false_and] at this
          exact this
        | true =>
          refine iteT ?_
          obtain ⟨ln, un, rfl, sln, hn, run⟩ := id rn0
          refine lc_pure (K := K) (S := S1) (σ := [some (.ref ga), some vu, some (.ref td), some (.ref lT), some (.ref lk), some (.ref lt), some (.ref ln), some vr, some (.int ((row.length - g.ks.length : Nat) : Int)), none, none, none, none, none, none]) (vs := [13]) (tl := tVar 6) (te := tDGet (tVar 2) (tVar 13)) (g := gName 13) (d := .lst (g.ns.map D.str)) (ds := g.ns.map D.str) (v := .ref ln) (fun dx => .bl (valM g.names row (strOf dx))) (rn0.same s1) rfl (by rw [List.length_map, gok.nl]; omega) (fun R h => ⟨_, rfl, h⟩) (fun dx x H' R hm sm' hx kk => ?_) mono_name fun H2 lB s2 nB hB => ?_
          · obtain ⟨m, hm2, rfl⟩ := List.mem_map.mp hm
            cases (show x = .str m from hx)
            refine ⟨rfl, _, rfl, _, rfl, td, _, rfl, ?_, kk H' (Same.refl _)⟩
            show DGet H' td (.str m) (some (.bl (valM g.names row m)))
            rw [← hval H' (s1.trans sm') m (gok.np m hm2)]
            exact DGet.k (k := Sum.inr m) ((s1.trans sm') _ _ htd)
          have eB : ((g.ns.map D.str).map fun dx => V.bl (valM g.names row (strOf dx))) = (g.ns.map (valM g.names row)).map V.bl := by
            rw [List.map_map, List.map_map]
            rfl
          rw [eB] at hB
          have s12 := s1.trans s2
          have rB : Rep (fun _ => True) H2 (rowD (g.ns.map (valM g.names row))) (.ref lB) := ⟨lB, _, rfl, trivial, hB, reps_bls _ _ _⟩
          have okB : (rowD (g.ns.map (valM g.names row))).ok 1 := oks_bls 0 _
          have okS : (D.lst (S.map rowD)).ok 2 := rows_ok S
          refine ⟨_, rfl, _, _, rB.dp okB, (hT.same s12).dp okS, D.ok_shaped okB (by decide), D.ok_shaped okS (by decide), ?_⟩
          have ei := any_row (g.ns.map (valM g.names row)) S
          rw [ei]
          have := k H2 s12
          rw [ea, Bool.true_and] at this
          exact this
      · rw [decide_eq_false eat]
        refine iteF ?_
        have hlt : row.length - g.ks.length < g.ts.length := by omega
        obtain ⟨r', rfl⟩ : ∃ r', r = r' + 1 := ⟨r - 1, by omega⟩
        obtain ⟨dx, hdx, hrx⟩ := rut.get (List.getElem?_eq_getElem (show row.length - g.ks.length < ut.length by omega))
        rw [List.getElem?_map, List.getElem?_eq_getElem hlt] at hdx
        cases hdx
        have emk : g.names[row.length]? = some (g.ts[row.length - g.ks.length]).1 := by
          unfold Gv.names
          rw [List.getElem?_append_right (by rw [List.length_map]; omega), List.length_map, List.getElem?_map, List.getElem?_eq_getElem hlt]
          rfl
        have ehd : g.hands.drop (row.length - g.ks.length) = (g.ts[row.length - g.ks.length]).2 :: g.hands.drop (row.length + 1 - g.ks.length) := by
          unfold Gv.hands
          rw [List.drop_eq_getElem_cons (by rw [List.length_map]; exact hlt), List.getElem_map, show row.length + 1 - g.ks.length = row.length - g.ks.length + 1 by omega]
        rw [ehd] at k
        generalize g.ts[row.length - g.ks.length] = tn at emk k hrx
        obtain ⟨p, up, evp, hp, rp⟩ := hrx
        obtain ⟨v1, _, rfl, r1, v2, _, rfl, r2, rfl⟩ := rp
        cases (show v1 = .str tn.1 from r1)
        cases (show v2 = .str tn.2 from r2)
        refine ⟨_, rfl, _, rfl, lt, ut, ((row.length - g.ks.length : Nat) : Int), .ref p, rfl, rfl, .inl (SqL.of ht), atI_nat (by rw [List.getElem?_eq_getElem (show row.length - g.ks.length < ut.length by omega), evp]), p, _, rfl, SqT.of hp, rfl, ?_⟩
        refine ⟨_, _, rfl, _, _, rfl, rfl, ?_⟩
        refine ⟨by show 2 ≤ sizeLine; decide, fun tt htt => ?_⟩
        have s1 : Same H (upd H tt (.tup [.bl false, .bl true])) := Same.new htt
        have ht1 : upd H tt (.tup [.bl false, .bl true]) tt = some (.tup [.bl false, .bl true]) := upd_same
        generalize upd H tt (.tup [.bl false, .bl true]) = H1 at s1 ht1 ⊢
        refine ⟨tt, rfl, ⟨_, SqT.of ht1⟩, fun D0 hD0 => ?_⟩
        have nd := gok.nd
        generalize hb : (fun sd => canM (endM g sums S) (g.hands.drop (row.length + 1 - g.ks.length)) (row ++ [sd])) = bb
        refine lc_tup (K := K) (a := tt) (xs := [.bl false, .bl true]) (fun i H' => Same H1 H' ∧ H' D0 = some (.lst ((([false, true].take i).map bb).map V.bl))) ⟨Same.new hD0, upd_same⟩ (fun i H' _ h => SqT.of (h.1 _ _ ht1)) ?_ ?_
        · rintro i x H' hx ⟨sm', hz⟩
          obtain ⟨sd, hsd, rfl⟩ : ∃ sd, [false, true][i]? = some sd ∧ x = .bl sd := by
            match i, hx with
            | 0, hx => cases hx; exact ⟨false, rfl, rfl⟩
            | 1, hx => cases hx; exact ⟨true, rfl, rfl⟩
          have hil : i < 2 := (List.getElem?_eq_some_iff.mp hsd).1
          have s0' := s1.trans sm'
          refine ⟨rfl, ?_⟩
          unfold tYes
          refine iteT ?_
          refine ⟨_, rfl, _, rfl, _, rfl, td, _, rfl, s0' _ _ htd, fun H5 pI its keep _ _ _ hpI hpair => ?_⟩
          have s5 : Same H' H5 := keep
          refine ⟨_, rfl, _, rfl, by show 2 ≤ sizeLine; decide, fun t1 ht1 => ⟨by show 1 ≤ sizeLine; decide, fun l1 hl1 => ?_⟩⟩
          have s6 : Same H5 (upd H5 t1 (.tup [.str tn.1, .bl sd])) := Same.new ht1
          have ht6 : upd H5 t1 (.tup [.str tn.1, .bl sd]) t1 = some (.tup [.str tn.1, .bl sd]) := upd_same
          generalize upd H5 t1 (.tup [.str tn.1, .bl sd]) = H6 at s6 ht6 hl1 ⊢
          have s7 : Same H6 (upd H6 l1 (.lst [.ref t1])) := Same.new hl1
          have hl7 : upd H6 l1 (.lst [.ref t1]) l1 = some (.lst [.ref t1]) := upd_same
          generalize upd H6 l1 (.lst [.ref t1]) = H7 at s7 hl7 ⊢
          have s57 := s6.trans s7
          have lits : its.length ≤ 20 := by
            have := hpair.length
            rw [kvR_len hrn] at this
            omega
          refine ⟨pI, l1, _, _, rfl, rfl, s57 _ _ hpI, hl7, Nat.le_trans (show (its.map V.ref).length + 1 ≤ 30 by rw [List.length_map]; omega) (by decide), fun q hq => ?_⟩
          have s8 : Same H7 (upd H7 q (.lst (its.map V.ref ++ [.ref t1]))) := Same.new hq
          have hq8 : upd H7 q (.lst (its.map V.ref ++ [.ref t1])) q = some (.lst ((its ++ [t1]).map V.ref)) := by
            rw [upd_same, List.map_append]
            rfl
          generalize upd H7 q (.lst (its.map V.ref ++ [.ref t1])) = H8 at s8 hq8 ⊢
          have s58 := s57.trans s8
          refine ⟨q, its ++ [t1], kvR g.names row ++ [(Sum.inr tn.1, .bl sd)], rfl, SqL.of hq8, paired_app (paired_imp (fun a b h => SqT.of (s58 _ _ h)) hpair) (show SqT K H8 t1 [kV (Sum.inr tn.1 : Key), V.bl sd] from SqT.of ((s7.trans s8) _ _ ht6)), fun dd hdd => ?_⟩
          rw [← kvR_snoc sd emk, kvR_merge nd]
          have s9 : Same H8 (upd H8 dd (.dK (kvR g.names (row ++ [sd])))) := Same.new hdd
          have hd9 : upd H8 dd (.dK (kvR g.names (row ++ [sd]))) dd = some (.dK (kvR g.names (row ++ [sd]))) := upd_same
          generalize upd H8 dd (.dK (kvR g.names (row ++ [sd]))) = H9 at s9 hd9 ⊢
          have s59 := s5.trans (s58.trans s9)
          have s09 := s0'.trans s59
          have lrow : (row ++ [sd]).length = row.length + 1 := by rw [List.length_append]; rfl
          refine ⟨_, rfl, S1, S2, S3, g, .ref ga, vu, dd, lT, sums, row ++ [sd], S, rfl, hg.same s09, gok, hu_.same s09, ls4, hsub, hd9, hT.same s09, by omega, by omega, by omega, fun H10 s10 => ?_⟩
          rw [lrow]
          refine ⟨_, (s59.trans s10) _ _ hz, ?_, Same.at (sm'.trans (s59.trans s10)) hD0, ?_⟩
          · rw [List.length_map, List.length_map, List.length_take]
            exact Nat.lt_of_le_of_lt (show min i 2 ≤ 2 by omega) (by decide)
          · rw [upd_same, List.take_add_one, hsd, List.map_append, List.map_append, ← hb]
            rfl
        · rintro H2 ⟨s2, hz⟩
          have s02 := s1.trans s2
          have hz : H2 D0 = some (.lst ([bb false, bb true].map V.bl)) := hz
          refine ⟨_, rfl, rfl, _, rfl, ?_⟩
          rw [str_eq]
          have kk := k H2 s02
          have hu2 : canM (endM g sums S) (tn.2 :: g.hands.drop (row.length + 1 - g.ks.length)) row = if tn.2 = ("we" : Str) then bb false || bb true else bb false && bb true := by
            rw [← hb]
            rfl
          rw [hu2] at kk
          by_cases ew : tn.2 = ("we" : Str)
          · rw [if_pos ew] at kk
            rw [decide_eq_true ew]
            refine iteT ?_
            refine ⟨_, rfl, D0, _, rfl, SqL.of hz, ?_⟩
            have e2 : ([bb false, bb true].any id) = (bb false || bb true) := by
              show (bb false || (bb true || false)) = _
              rw [Bool.or_false]
            rw [e2]
            exact kk
          · rw [if_neg ew] at kk
            rw [decide_eq_false ew]
            refine iteF ?_
            refine ⟨_, rfl, D0, _, rfl, SqL.of hz, ?_⟩
            have e2 : ([bb false, bb true].all id) = (bb false && bb true) := by
              show (bb false && (bb true && true)) = _
              rw [Bool.and_true]
            rw [e2]
            exact kk
end
end Q1
set_option Elab.async false
set_option linter.all false
set_option maxRecDepth 100000
set_option maxHeartbeats 4000000
namespace Q1
open PySem L2 LamX
/-! ### the law's rounds and the program's -/
def Gv.codes (g : Gv) (sums : List (List Str × Bool)) : List Nat := sums.map fun o => codeS g.names o.1 o.2
def Gv.ps (g : Gv) : List Nat := g.ns.map g.names.idxOf
theorem odd_code {names : List Str} (nd : names.Nodup) {o : List Str × Bool} (hs : o.1.Sublist names) {full : List Bool} (hl : full.length = names.length) (h12 : names.length ≤ 12) : oddV (valM names full) o = holdB (codeS names o.1 o.2) (encB full) := by
  have e := sub_filter hs nd
  obtain ⟨ms, t⟩ := o
  have e : ms = names.filter fun m => decide (m ∈ ms) := e
  generalize (fun m => decide (m ∈ ms)) = p at e
  subst e
  rw [hold_parC _ (by omega)]
  show ((names.filter p).foldl (fun b m => b != valM names full m) false == t) = _
  rw [code_enc nd, code_odd]
  rw [fold_marks (t.toNat + encB (names.map p)) p (valM names full) names full 0 false hl.symm fun j m hm => ⟨?_, ?_⟩]
  · cases parC (t.toNat + encB (names.map p)) 0 full <;> rfl
  · rw [Nat.zero_add, code_bit, List.getD_eq_getElem?_getD, List.getElem?_map, hm]
    rfl
  · unfold valM
    rw [nodup_idx nd hm]
theorem gd_of {g : Gv} (ok : GvOk g) {sums : List (List Str × Bool)} (hs : ∀ o ∈ sums, o.1.Sublist g.names) : Gd (g.codes sums) g.hands g.ps g.ks.length := by
  have k4 := ok.k4
  have t4 := ok.t4
  have lnm : g.names.length = g.ks.length + g.ts.length := by unfold Gv.names; rw [List.length_append, List.length_map, List.length_map]
  have lh : g.hands.length = g.ts.length := List.length_map _
  refine ⟨k4, by rw [lh]; exact t4, fun h hh => ?_, ?_, fun p hp => ?_, fun c hc => ?_⟩
  · obtain ⟨t, ht, rfl⟩ := List.mem_map.mp hh
    exact ok.hd t ht
  · unfold Gv.ps
    rw [List.length_map]
    exact ok.nl
  · obtain ⟨m, hm, rfl⟩ := List.mem_map.mp hp
    have := List.idxOf_lt_length_of_mem (ok.np m hm)
    omega
  · obtain ⟨o, ho, rfl⟩ := List.mem_map.mp hc
    have e := sub_filter (hs o ho) ok.nd
    rw [e, code_enc ok.nd]
    have := code_len o.2 (g.names.map fun m => decide (m ∈ o.1))
    rw [List.length_map] at this
    omega
def stM (g : Gv) (sums : List (List Str × Bool)) : Nat → List (List Bool)
  | 0 => rowsM g.ks.length
  | r + 1 => (rowsM g.ks.length).filter fun row => canM (endM g sums (stM g sums r)) g.hands row
theorem stM_eq {g : Gv} (ok : GvOk g) {sums : List (List Str × Bool)} (hs : ∀ o ∈ sums, o.1.Sublist g.names) : ∀ r, stM g sums r = St (g.codes sums) g.hands g.ps g.ks.length r
  | 0 => by
    unfold St
    exact (List.filter_eq_self.mpr fun row _ => rfl).symm
  | r + 1 => by
    have k4 := ok.k4
    have t4 := ok.t4
    have lnm : g.names.length = g.ks.length + g.ts.length := by unfold Gv.names; rw [List.length_append, List.length_map, List.length_map]
    have lh : g.hands.length = g.ts.length := List.length_map _
    refine List.filter_congr fun row hr => ?_
    have hn := (mem_rows _ row).mp hr
    refine canM_congr g.hands row fun x hx => ?_
    unfold endM
    have e1 : (sums.all fun o => oddV (valM g.names x) o) = holdL (g.codes sums) (encB x) := by
      unfold holdL Gv.codes
      rw [List.all_map, Bool.eq_iff_iff, List.all_eq_true, List.all_eq_true]
      exact ⟨fun h o ho => by show holdB (codeS g.names o.1 o.2) (encB x) = true; rw [← odd_code ok.nd (hs o ho) (by omega) (by omega)]; exact h o ho, fun h o ho => by rw [odd_code ok.nd (hs o ho) (by omega) (by omega)]; exact h o ho⟩
    have e2 : g.ns.map (valM g.names x) = nextR g.ps x := by
      unfold nextR Gv.ps
      rw [List.map_map]
      rfl
    rw [e1, e2, stM_eq ok hs r]
    congr 1
    rw [Bool.eq_iff_iff, decide_eq_true_iff]
    unfold St
    rw [List.mem_filter]
    have hl : (nextR g.ps x).length = g.ks.length := by unfold nextR Gv.ps; rw [List.length_map, List.length_map, ok.nl]
    exact ⟨fun h => h.2, fun h => ⟨(mem_rows _ _).mpr hl, h⟩⟩
def stD (g : Gv) (sums : List (List Str × Bool)) (i : Nat) : D := .lst ((stM g sums i).map rowD)
theorem stM_len {g : Gv} (ok : GvOk g) (sums : List (List Str × Bool)) : ∀ r, (stM g sums r).length ≤ 16
  | 0 => by
    show (rowsM g.ks.length).length ≤ 16
    rw [rowsM_len]
    exact Nat.le_trans (Nat.pow_le_pow_right (by decide) ok.k4) (by decide)
  | r + 1 => Nat.le_trans (List.length_filter_le _ _) (stM_len ok sums 0)
theorem kvR_kept : ∀ (a b : List Str) (row : List Bool), row.length = a.length → kvR a row = kvR (a ++ b) row
  | [], b, [], _ => by cases b <;> rfl
  | [], _, _ :: _, h => by cases h
  | _ :: _, _, [], h => by cases h
  | x :: a, b, y :: row, h => by
    show (Sum.inr x, V.bl y) :: kvR a row = (Sum.inr x, V.bl y) :: kvR (a ++ b) row
    rw [kvR_kept a b row (by simpa using h)]
theorem eqv_rows : ∀ A B : List (List Bool), PyData.eqvAll (pys (A.map rowD)) (pys (B.map rowD)) = decide (A = B)
  | [], [] => rfl
  | [], _ :: _ => rfl
  | _ :: _, [] => rfl
  | m :: ms, n :: ns => by
    have ih := eqv_rows ms ns
    show (PyData.eqvAll (pys (m.map D.bl)) (pys (n.map D.bl)) && PyData.eqvAll (pys (ms.map rowD)) (pys (ns.map rowD))) = _
    rw [ih, eqv_bls, Bool.eq_iff_iff, Bool.and_eq_true, decide_eq_true_iff, decide_eq_true_iff, decide_eq_true_iff, List.cons.injEq]
theorem atI_lastOf {us : List V} {v : V} {i : Nat} (hl : us.length = i + 1) (h : us[i]? = some v) : atI us (-1) = some v := by
  rcases List.eq_nil_or_concat us with e | ⟨l, x, e⟩
  · rw [e] at hl
    cases hl
  · rw [List.concat_eq_append] at e
    subst e
    rw [List.length_append] at hl
    have : l.length = i := by simpa using hl
    rw [List.getElem?_append_right (by omega), show i - l.length = 0 by omega] at h
    cases (show some x = some v from h)
    exact atI_last l _
section
variable {P : Program} {w : World} {K : PySem.W.Frag} {mg : Str → Option Value} {base : Heap}
/-! ### _law_chain -/
abbrev sCh : Stmt := top 53
abbrev nCh : List Str := ["game", "sums", "names", "found", "turn", "later", "mark", "truth", "one"]
theorem scCh : FnScope nCh ["game", "sums"] (defScope sCh) := ⟨rfl, rfl, rfl, by decide +kernel, rfl, by decide +kernel, by decide +kernel⟩
def spCh : Sp := fun vs H Q _ => ∃ (S1 S2 : Addr → Prop) (g : Gv) (vg vu : V) (sums : List (List Str × Bool)), vs = [vg, vu] ∧ Rep S1 H (gmD g) vg ∧ GvOk g ∧ Rep S2 H (.lst (sums.map sumD)) vu ∧ sums.length ≤ 4 ∧ (∀ o ∈ sums, o.1.Sublist g.names) ∧
  ∀ H' v t, Same H H' → Rep (fun a => H a = none) H' (.lst ((List.range (t + 1)).map (stD g sums))) v → t ≤ 20 → (stM g sums (t + 1) = stM g sums t ∨ t = 20) → Q v H'
theorem ok_ch (B : Bt mg) (B2 : Bt2 mg) (N : Dn K mg "_law_chain" sCh ["game", "sums"]) (NR : Dn K mg "_law_g_rows" sGr ["many"]) (NC : Dn K mg "_law_can" sCan ["game", "sums", "truths", "states"]) (NH : Dn K mg "_law_o_holds" sOh ["one", "truths"]) : FnOk P w K mg base CX0 8 N.f N.fd ["game", "sums"] spCh := by
  have GR : FnOk P w K mg base CX0 1 NR.f NR.fd ["many"] spGr := ok_gr B NR
  have GC : FnOk P w K mg base CX0 7 NC.f NC.fd ["game", "sums", "truths", "states"] (spCan 5) := ok_can B B2 NC NH 5
  refine N.F.ok scCh (fun vs H Q E h => ?_) (fun cdv A outer s H vs Q E hr h => ?_)
  · obtain ⟨S1, S2, g, vg, vu, sums, rfl, _⟩ := h
    rfl
  · obtain ⟨S1, S2, g, vg, vu, sums, rfl, hg, gok, hU, ls4, hsub, k⟩ := h
    refine ⟨_, pss_cons (ps_set (i := 2) scCh.nd rfl (Or.inr rfl) (pe_lc (own := [("mark", 6), ("truth", 7)]) (g := gTup K 2 (gCons (gName 6) (gCons (gName 7) gNil))) (tt := tYes) (te := tVar 6) rfl scCh.nd (pi_list (pe_ix ix_seqA (pv 0) pe_int (fun _ _ => rfl))) (blkOk_by (own := [("mark", 6), ("truth", 7)]) (N := nCh) (sc := defScope sCh) (by decide +kernel))
          (fun _ _ _ _ _ => pg_tup (by rfl) (pgs_cons (pg_name (i := 6) scCh.nd (by rfl) (Or.inl (by rfl)) (by exact .inr rfl)) (pgs_cons (pg_name (i := 7) scCh.nd (by rfl) (Or.inl (by rfl)) (by exact .inr rfl)) pgs_nil)))
          (fun _ _ _ _ _ => pts_nil) (fun _ _ _ _ _ => pv 6)))
      (pss_cons (ps_set (i := 3) scCh.nd rfl (Or.inr rfl) (pe_lst (pa_cons (pe_call GR (hr.mono (by decide)) (by rfl) NR.g NR.F.kp NR.b .nil pass0 (pa_cons (pe_callB call_len_seq (by rfl) B.len boot_len (pa_cons (pv 2) pa_nil)) pa_nil)) pa_nil)))
      (pss_cons (ps_for PassesOwn.never rfl (pi_range1 (by rfl) B.range (pa_cons pe_int pa_nil)) (pg_name (i := 4) scCh.nd rfl (Or.inl rfl))
        (pss_cons (ps_setLc (i := 5) (own := [("one", 8)]) (g := gName 8) (tt := tB (tCall (spCan 5) [] E0 (tCons (tVar 0) (tCons (tVar 1) (tCons (tDZip K (tCons (tVar 2) (tCons (tVar 8) tNil))) (tCons (tOp (rSeqA K) (tVar 3) (tUn (rU fun i => .int (-i)) (tC (.int 1)))) tNil)))))) (te := tVar 8) (by rfl) scCh.nd rfl rfl (sw_true rfl rfl rfl (by decide +kernel)) (pi_list (pe_ix ix_seqA (pv 3) pe_int (fun _ _ => rfl))) (blkOk_by (own := [("one", 8)]) (N := nCh) (sc := defScope sCh) (by decide +kernel))
            (fun _ _ _ _ _ => pg_name (i := 8) scCh.nd rfl (Or.inl rfl))
            (fun _ _ _ _ _ => pts_one (pt_val (pe_call GC hr (by rfl) NC.g NC.F.kp NC.b .nil pass0 (pa_cons (pv 0) (pa_cons (pv 1) (pa_cons (pe_dictZip rfl (by rfl) B.dict (by rfl) B.zip (pa_cons (pv 2) (pa_cons (pv 8) pa_nil))) (pa_cons (pe_ix ix_seqA (pv 3) (pe_un un_neg pe_int) (fun _ _ => rfl)) pa_nil))))) (fun _ => rfl)))
            (fun _ _ _ _ _ => pv 8))
        (pss_cons (ps_if (pt_cmpR (op_eqD hr.units) (pv 5) (pe_ix ix_seqA (pv 3) (pe_un un_neg pe_int) (fun _ _ => rfl)) (by rfl)) (pss_one (ps_ret (pv 3))) pss_nil)
        (pss_one (ps_expr (pe_bm PySem.F.plainAttrs_list PySem.F.slot_list_append PySem.F.type_list_append mt_append (pv 3) (pa_cons (pv 5) pa_nil)))))))
      (pss_one (ps_ret (pv 3))))), ?_⟩
    obtain ⟨ga, us, rfl, hga, rr⟩ := id hg
    obtain ⟨vk, _, rfl, rk, vt, _, rfl, rt, vn, _, rfl, rn, vr, _, rfl, rr4, rfl⟩ := rr
    obtain ⟨lk, uk, rfl, slk, hk, ruk⟩ := rk
    have luk := ruk.length
    rw [List.length_map] at luk
    have k4 := gok.k4
    have t4 := gok.t4
    have lnm : g.names.length = g.ks.length + g.ts.length := by unfold Gv.names; rw [List.length_append, List.length_map, List.length_map]
    refine ⟨_, rfl, ga, _, 0, .ref lk, rfl, rfl, .inr (SqT.of hga), atI_nat (j := 0) rfl, lk, rfl, ⟨_, SqL.of hk⟩, fun lN hlN => ?_⟩
    refine lc_list (K := K) (a := lk) (xs := uk) (fun i H' => Same H H' ∧ H' lN = some (.lst (((g.ks.take i).map Prod.fst).map V.str))) ⟨Same.new hlN, upd_same⟩ (fun i H' _ h => SqL.of (h.1 _ _ hk)) ?_ ?_
    · rintro i x H' hx ⟨sm', hz⟩
      obtain ⟨dx, hdx, hrx⟩ := (ruk.same sm').get hx
      rw [List.getElem?_map] at hdx
      cases qk : g.ks[i]? with
      | none => rw [qk] at hdx; cases hdx
      | some kp =>
      rw [qk] at hdx
      cases hdx
      have hil := (List.getElem?_eq_some_iff.mp qk).1
      obtain ⟨p, up, rfl, hp, rp⟩ := hrx
      obtain ⟨v1, _, rfl, r1, v2, _, rfl, r2, rfl⟩ := rp
      cases (show v1 = .str kp.1 from r1)
      refine ⟨p, _, rfl, SqT.of hp, rfl, ?_⟩
      refine ⟨_, _, rfl, _, _, rfl, rfl, ?_⟩
      refine ⟨rfl, ?_⟩
      unfold tYes
      refine iteT ?_
      refine ⟨_, rfl, _, hz, ?_, Same.at sm' hlN, ?_⟩
      · rw [List.length_map, List.length_map, List.length_take]
        exact Nat.lt_of_le_of_lt (show min i g.ks.length ≤ 20 by omega) (by decide)
      · rw [upd_same, List.take_add_one, qk, List.map_append, List.map_append]
        rfl
    rintro H1 ⟨s1, hN⟩
    rw [luk, List.take_length] at hN
    refine ⟨_, rfl, lN, _, rfl, .inl (SqL.of hN), g.ks.length, by rw [List.length_map, List.length_map]; rfl, by omega, fun H2 v0 s2 r0 => ?_⟩
    obtain ⟨l0, u0, rfl, f0, h0, ru0⟩ := r0
    refine ⟨by show 1 ≤ sizeLine; decide, fun lF hlF => ?_⟩
    have s3 : Same H2 (upd H2 lF (.lst [.ref l0])) := Same.new hlF
    have hF3 : upd H2 lF (.lst [.ref l0]) lF = some (.lst [.ref l0]) := upd_same
    have n0F : l0 ≠ lF := fun z => by rw [z, hlF] at h0; cases h0
    have s12 := s1.trans s2
    have hFH : H lF = none := s12.free hlF
    have ru0 : Reps (fun b => H b = none ∧ b ≠ lF) H2 ((rowsM g.ks.length).map rowD) u0 := Reps.mono (fun b hb => ⟨s1.free hb.1, fun z => hb.2 (by rw [z]; exact hlF)⟩) (stay_of (Same.refl H2)) ru0.here
    generalize upd H2 lF (.lst [.ref l0]) = H3 at s3 hF3 ⊢
    have s03 := s12.trans s3
    have h03 := s3 _ _ h0
    have ru3 := ru0.same s3
    have hN3 := (s2.trans s3) _ _ hN
    have nNF : lN ≠ lF := fun z => by rw [z, s2.free hlF] at hN; cases hN
    have lu0 := ru0.length
    rw [List.length_map] at lu0
    have l016 : u0.length ≤ 16 := by rw [lu0]; exact stM_len gok sums 0
    have nd := gok.nd
    refine ⟨20, rfl, by decide, by decide, for_range (lo := 0) (n := 20) (fun i σ H' => ∃ (o4 o5 : Option V) (us : List V), σ = [some (.ref ga), some vu, some (.ref lN), some (.ref lF), o4, o5, none, none, none] ∧ SameS lF H3 H' ∧ H' lF = some (.lst (.ref l0 :: us)) ∧ Reps (fun b => H b = none ∧ b ≠ lF) H' ((List.range (i + 1)).map (stD g sums)) (.ref l0 :: us))
      ⟨_, _, [], rfl, SameS.refl _, hF3, .ref l0, [], rfl, ⟨l0, u0, rfl, ⟨s1.free f0, n0F⟩, h03, ru3⟩, rfl⟩ ?_ ?_⟩
    · rintro i σ H' hi ⟨o4, o5, us, rfl, sS, hF, hus⟩
      have lus := hus.length
      rw [List.length_map, List.length_range] at lus
      have sH : Same H H' := fun b o e => sS b o (fun z => by rw [z, hFH] at e; cases e) (s03 b o e)
      have h0' := sS _ _ n0F h03
      have hN' := sS _ _ nNF hN3
      have ru' : Reps (fun b => H b = none ∧ b ≠ lF) H' ((rowsM g.ks.length).map rowD) u0 := Reps.mono (fun _ z => z) (sS.stay hF3 (fun z => z.2 rfl)) ru3
      obtain ⟨vT, hvT⟩ : ∃ v, (V.ref l0 :: us)[i]? = some v := ⟨_, List.getElem?_eq_getElem (by omega)⟩
      obtain ⟨dT, hdT, rT⟩ := hus.get hvT
      rw [List.getElem?_map, List.getElem?_range (by omega)] at hdT
      cases hdT
      obtain ⟨lT, uT, rfl, sT, hT, ruT⟩ := rT
      have rT : Rep (fun b => H b = none ∧ b ≠ lF) H' (stD g sums i) (.ref lT) := ⟨lT, uT, rfl, sT, hT, ruT⟩
      have alast := atI_lastOf (i := i) (by omega) hvT
      refine ⟨_, rfl, lF, _, 0, .ref l0, rfl, rfl, .inl (SqL.of hF), atI_nat (j := 0) rfl, l0, rfl, ⟨_, SqL.of h0'⟩, fun lB hlB => ?_⟩
      have fB : H lB = none := sH.free hlB
      have nBF : lB ≠ lF := fun z => by rw [z, hF] at hlB; cases hlB
      refine lc_list (K := K) (a := l0) (xs := u0) (fun j H4 => Same H' H4 ∧ ∃ ws, H4 lB = some (.lst ws) ∧ Reps (fun b => (H b = none ∧ b ≠ lF) ∧ H' b ≠ none) H4 ((((rowsM g.ks.length).take j).filter fun row => canM (endM g sums (stM g sums i)) g.hands row).map rowD) ws) ⟨Same.new hlB, [], upd_same, rfl⟩ (fun j H4 _ h => SqL.of (h.1 _ _ h0')) ?_ ?_
      · rintro j x H4 hx ⟨s4, ws, hw, hws⟩
        obtain ⟨dx, hdx, hrx⟩ := (ru'.here.same s4).get hx
        rw [List.getElem?_map] at hdx
        cases qr : (rowsM g.ks.length)[j]? with
        | none => rw [qr] at hdx; cases hdx
        | some row =>
        rw [qr] at hdx
        cases hdx
        have hjl := (List.getElem?_eq_some_iff.mp hx).1
        have lrow := (mem_rows _ row).mp (List.mem_of_getElem? qr)
        have hrx2 := hrx
        obtain ⟨b, ur, rfl, _, hb, rr2⟩ := hrx
        have er := bls_vals rr2
        subst er
        have s04 := sH.trans s4
        have lws := hws.length
        rw [List.length_map] at lws
        have fl := List.length_filter_le (fun row => canM (endM g sums (stM g sums i)) g.hands row) ((rowsM g.ks.length).take j)
        rw [List.length_take] at fl
        have ft : ((rowsM g.ks.length).take (j + 1)).filter (fun row => canM (endM g sums (stM g sums i)) g.hands row) = ((rowsM g.ks.length).take j).filter (fun row => canM (endM g sums (stM g sums i)) g.hands row) ++ (if canM (endM g sums (stM g sums i)) g.hands row = true then [row] else []) := by
          rw [List.take_add_one, qr]
          exact filter_snoc (fun row => canM (endM g sums (stM g sums i)) g.hands row) ((rowsM g.ks.length).take j) row
        refine ⟨rfl, _, rfl, _, rfl, _, rfl, _, rfl, lN, b, (g.ks.map Prod.fst).map Sum.inr, row.map V.bl, rfl, ?_, SqL.of hb, by rw [List.length_map, List.length_map, List.length_map, lrow], ?_, fun q hq => ?_⟩
        · rw [List.map_map]
          exact SqL.of (s4 _ _ hN')
        · rw [List.length_map, List.length_map]
          exact Nat.le_trans k4 (by decide)
        rw [kvR_zip, kvR_kept (g.ks.map Prod.fst) (g.ts.map Prod.fst) row (by rw [List.length_map, lrow])]
        have e9 : kvR (g.ks.map Prod.fst ++ g.ts.map Prod.fst) row = kvR g.names row := rfl
        rw [e9, kvR_merge nd]
        have s5 : Same H4 (upd H4 q (.dK (kvR g.names row))) := Same.new hq
        have hq5 : upd H4 q (.dK (kvR g.names row)) q = some (.dK (kvR g.names row)) := upd_same
        generalize upd H4 q (.dK (kvR g.names row)) = H5 at s5 hq5 ⊢
        have s05 := s04.trans s5
        have s45 := s4.trans s5
        refine ⟨_, rfl, 1, rfl, lF, _, -1, .ref lT, rfl, rfl, .inl (SqL.of (s45 _ _ hF)), alast, ?_⟩
        refine ⟨S1, S2, _, g, .ref ga, vu, q, lT, sums, row, stM g sums i, rfl, hg.same s05, gok, hU.same s05, ls4, hsub, hq5, rT.same s45, by omega, by omega, (show g.names.length ≤ row.length + 4 by omega), fun H6 s6 => ⟨_, rfl, ?_⟩⟩
        rw [lrow, Nat.sub_self, List.drop_zero]
        have s46 := s5.trans s6
        have hw6 := s46 _ _ hw
        cases ec : canM (endM g sums (stM g sums i)) g.hands row with
        | true =>
          rw [ec, if_pos rfl] at ft
          refine iteT ?_
          refine ⟨_, rfl, ws, hw6, Nat.lt_of_le_of_lt (show ws.length ≤ 16 by omega) (by decide), Same.at (s4.trans s46) hlB, _, upd_same, ?_⟩
          have st : Stay (fun b => (H b = none ∧ b ≠ lF) ∧ H' b ≠ none) H6 (upd H6 lB (.lst (ws ++ [.ref b]))) := stay_upd hw6 (nd_lst fun z => z.2 hlB)
          rw [ft, List.map_append]
          exact Reps.append (Reps.mono (fun _ z => z) st (hws.same s46)) (Reps.one (Rep.mono (fun _ z => z) st (hrx2.same s46)))
        | false =>
          rw [ec, if_neg (by decide), List.append_nil] at ft
          refine iteF ⟨s4.trans s46, ws, hw6, ?_⟩
          rw [ft]
          exact hws.same s46
      rintro H4 ⟨s4, ws, hw, hws⟩
      rw [lu0, List.take_length] at hws
      have hws : Reps (fun b => H b = none ∧ b ≠ lF) H4 ((stM g sums (i + 1)).map rowD) ws := Reps.mono (fun _ z => z.1) (stay_of (Same.refl H4)) hws
      have rB : Rep (fun b => H b = none ∧ b ≠ lF) H4 (stD g sums (i + 1)) (.ref lB) := ⟨lB, ws, rfl, ⟨fB, nBF⟩, hw, hws⟩
      have rT4 := rT.same s4
      have okB : (stD g sums (i + 1)).ok 2 := rows_ok _
      have okT : (stD g sums i).ok 2 := rows_ok _
      have hF4 := s4 _ _ hF
      have hus4 := hus.same s4
      refine ⟨_, rfl, _, rfl, 1, rfl, lF, _, -1, .ref lT, rfl, rfl, .inl (SqL.of hF4), alast, _, _, rB.dp okB, rT4.dp okT, D.ok_shaped okB (by decide), D.ok_shaped okT (by decide), _, rfl, ?_⟩
      have ee : PyData.eqv (stD g sums (i + 1)).py (stD g sums i).py = decide (stM g sums (i + 1) = stM g sums i) := eqv_rows _ _
      rw [ee]
      by_cases et : stM g sums (i + 1) = stM g sums i
      · rw [decide_eq_true et]
        refine iteT ?_
        exact ⟨_, rfl, k H4 (.ref lF) i (sH.trans s4) ⟨lF, _, rfl, hFH, hF4, Reps.mono (fun _ z => z.1) (stay_of (Same.refl H4)) hus4⟩ (by omega) (.inl et)⟩
      · rw [decide_eq_false et]
        refine iteF ?_
        refine ⟨_, rfl, .inl ⟨rfl, _, SqL.of hF4⟩, _, rfl, lF, _, _, rfl, rfl, hF4, Nat.lt_of_le_of_lt (show (V.ref l0 :: us).length ≤ 30 by omega) (by decide), ?_⟩
        refine ⟨_, _, us ++ [.ref lB], rfl, (sS.trans (SameS.of s4)).upd, upd_same, ?_⟩
        have st : Stay (fun b => H b = none ∧ b ≠ lF) H4 (upd H4 lF (.lst ((V.ref l0 :: us) ++ [.ref lB]))) := stay_upd hF4 (nd_lst fun z => z.2 rfl)
        rw [List.range_succ (n := i + 1), List.map_append]
        exact Reps.append (Reps.mono (fun _ z => z) st hus4) (Reps.one (Rep.mono (fun _ z => z) st rB))
    · rintro σ H' ⟨o4, o5, us, rfl, sS, hF, hus⟩
      have sH : Same H H' := fun b o e => sS b o (fun z => by rw [z, hFH] at e; cases e) (s03 b o e)
      exact ⟨_, rfl, k H' (.ref lF) 20 sH ⟨lF, _, rfl, hFH, hF, Reps.mono (fun _ z => z.1) (stay_of (Same.refl H')) hus⟩ (Nat.le_refl _) (.inr rfl)⟩
end
end Q1
set_option Elab.async false
set_option linter.all false
set_option maxRecDepth 100000
set_option maxHeartbeats 4000000
namespace Q1
open PySem L2 LamX
def rowInv : D → List Bool
  | .lst xs => xs.map fun x => match x with | .bl b => b | _ => false
  | _ => []
theorem rowInv_row (r : List Bool) : rowInv (rowD r) = r := by
  show (r.map D.bl).map _ = r
  rw [List.map_map]
  exact (List.map_congr_left fun x _ => rfl).trans (List.map_id r)
/-- the sums of a lot of places that the states keep -/
def everyOf (names : List Str) (sts : List (List Bool)) (lot : List Str) (t : Bool) : List (List Str × Bool) := if sts.all (fun row => oddM names row lot == t) = true then [(lot, t)] else []
theorem lotsOf_elem {α : Type} {P : α → Prop} : ∀ (xs : List α) (F : List (List α)), (∀ l ∈ F, ∀ c ∈ l, P c) → (∀ x ∈ xs, P x) → ∀ l ∈ xs.foldl (fun f x => f ++ f.map (· ++ [x])) F, ∀ c ∈ l, P c
  | [], F, h, _, l, hl => h l hl
  | x :: xs, F, h, hx, l, hl => by
    rw [List.foldl_cons] at hl
    refine lotsOf_elem xs _ (fun m hm => ?_) (fun y hy => hx y (List.mem_cons_of_mem _ hy)) l hl
    rcases List.mem_append.mp hm with hm | hm
    · exact h m hm
    · obtain ⟨q, hq, rfl⟩ := List.mem_map.mp hm
      intro c hc
      rcases List.mem_append.mp hc with hc | hc
      · exact h q hq c hc
      · rw [List.mem_singleton.mp hc]
        exact hx x List.mem_cons_self
theorem every_lot {names : List Str} {sts : List (List Bool)} {o : List Str × Bool} (h : o ∈ everyM names sts) : o.1 ∈ lotsOf names := by
  unfold everyM at h
  obtain ⟨lot, hl, h⟩ := List.mem_flatMap.mp h
  obtain ⟨t, _, h⟩ := List.mem_flatMap.mp h
  split at h
  · rw [List.mem_singleton.mp h]
    exact hl
  · cases h
def Gv.kept (g : Gv) : List Str := g.ks.map Prod.fst
def Gv.begun (g : Gv) : List Bool := g.ks.map Prod.snd
theorem every_len (names : List Str) (sts : List (List Bool)) : ∀ L : List (List Nat), (L.flatMap fun l => [false, true].flatMap (everyOf names sts (l.map fun i => names.getD i ""))).length ≤ 2 * L.length
  | [] => Nat.le_refl _
  | l :: L => by
    have := every_len names sts L
    rw [List.flatMap_cons, List.length_append, List.length_cons]
    have h2 : ([false, true].flatMap (everyOf names sts (l.map fun i => names.getD i ""))).length ≤ 2 := by
      show (everyOf names sts (l.map fun i => names.getD i "") false ++ (everyOf names sts (l.map fun i => names.getD i "") true ++ [])).length ≤ 2
      rw [List.append_nil, List.length_append]
      have one : ∀ t, (everyOf names sts (l.map fun i => names.getD i "") t).length ≤ 1 := fun t => by
        unfold everyOf
        split <;> simp
      have := one false
      have := one true
      omega
    omega
theorem names_range (names : List Str) : (List.range names.length).map (fun i => names.getD i "") = names := by
  refine List.ext_getElem (by rw [List.length_map, List.length_range]) fun i h1 h2 => ?_
  rw [List.getElem_map, List.getElem_range, List.getD_eq_getElem?_getD, List.getElem?_eq_getElem h2]
  rfl
theorem every_eq (names : List Str) (sts : List (List Bool)) : everyM names sts = (lotsOf (List.range names.length)).flatMap fun l => [false, true].flatMap (everyOf names sts (l.map fun i => names.getD i "")) := by
  have e : lotsOf names = (lotsOf (List.range names.length)).map (List.map fun i => names.getD i "") := by
    have := lots_map (f := fun i => names.getD i "") (List.range names.length) [[]]
    rw [names_range] at this
    exact this
  unfold everyM
  rw [e, List.flatMap_map]
  rfl
section
variable {P : Program} {w : World} {K : PySem.W.Frag} {mg : Str → Option Value} {base : Heap}
/-! ### _law_due -/
abbrev sDu : Stmt := top 54
abbrev nDu : List Str := ["game", "sums", "names", "begun", "chain", "many", "states", "every", "lot", "truth", "one", "mark", "at", "state"]
theorem scDu : FnScope nDu ["game", "sums"] (defScope sDu) := ⟨rfl, rfl, rfl, by decide +kernel, rfl, by decide +kernel, by decide +kernel⟩
def spDu : Sp := fun vs H Q _ => ∃ (S1 S2 : Addr → Prop) (g : Gv) (vg vu : V) (sums : List (List Str × Bool)), vs = [vg, vu] ∧ Rep S1 H (gmD g) vg ∧ GvOk g ∧ Rep S2 H (.lst (sums.map sumD)) vu ∧ sums.length ≤ 4 ∧ (∀ o ∈ sums, o.1.Sublist g.names) ∧
  (∀ r, 1 ≤ r → g.begun ∉ stM g sums r → (∀ i, i < r → g.begun ∈ stM g sums i) → ∀ H' v, Same H H' → Rep (fun _ => True) H' (lostD r) v → Q v H') ∧
  (∀ t, (stM g sums (t + 1) = stM g sums t ∨ t = 20) → (∀ i, i ≤ t → g.begun ∈ stM g sums i) → ∃ res, neatM g.kept (everyM g.kept (stM g sums t)) = some res ∧ ∀ H' v, Same H H' → Rep (fun _ => True) H' (.tup [.str "kept", .lst (res.map sumD)]) v → Q v H')
theorem ok_du (B : Bt mg) (B2 : Bt2 mg) (N : Dn K mg "_law_due" sDu ["game", "sums"]) (NCh : Dn K mg "_law_chain" sCh ["game", "sums"]) (NR : Dn K mg "_law_g_rows" sGr ["many"]) (NC : Dn K mg "_law_can" sCan ["game", "sums", "truths", "states"]) (NH : Dn K mg "_law_o_holds" sOh ["one", "truths"])
    (NL : Dn K mg "_law_o_lots" sOl ["many"]) (NN : Dn K mg "_law_o_neat_in" sNi ["names", "every"]) : FnOk P w K mg base CX0 9 N.f N.fd ["game", "sums"] spDu := by
  have GCh : FnOk P w K mg base CX0 8 NCh.f NCh.fd ["game", "sums"] spCh := ok_ch B B2 NCh NR NC NH
  have GL : FnOk P w K mg base CX0 1 NL.f NL.fd ["many"] spOl := ok_ol B NL
  have GH : FnOk P w K mg base CX0 1 NH.f NH.fd ["one", "truths"] spOh := ok_oh NH
  have GN : FnOk P w K mg base CX0 1 NN.f NN.fd ["names", "every"] spNi := ok_ni B B2 NN
  refine N.F.ok scDu (fun vs H Q E h => ?_) (fun cdv A outer s H vs Q E hr h => ?_)
  · obtain ⟨S1, S2, g, vg, vu, sums, rfl, _⟩ := h
    rfl
  · obtain ⟨S1, S2, g, vg, vu, sums, rfl, hg, gok, hU, ls4, hsub, kL, kK⟩ := h
    refine ⟨_, pss_cons (ps_asg (pe_tup (pa_cons
          (pe_lc (own := [("mark", 11), ("truth", 9)]) (g := gTup K 2 (gCons (gName 11) (gCons (gName 9) gNil))) (tt := tYes) (te := tVar 11) rfl scDu.nd (pi_list (pe_ix ix_seqA (pv 0) pe_int (fun _ _ => rfl))) (blkOk_by (own := [("mark", 11), ("truth", 9)]) (N := nDu) (sc := defScope sDu) (by decide +kernel))
            (fun _ _ _ _ _ => pg_tup (by rfl) (pgs_cons (pg_name (i := 11) scDu.nd (by rfl) (Or.inl (by rfl)) (by exact .inr rfl)) (pgs_cons (pg_name (i := 9) scDu.nd (by rfl) (Or.inl (by rfl)) (by exact .inr rfl)) pgs_nil)))
            (fun _ _ _ _ _ => pts_nil) (fun _ _ _ _ _ => pv 11)) (pa_cons
          (pe_lc (own := [("mark", 11), ("truth", 9)]) (g := gTup K 2 (gCons (gName 11) (gCons (gName 9) gNil))) (tt := tYes) (te := tVar 9) rfl scDu.nd (pi_list (pe_ix ix_seqA (pv 0) pe_int (fun _ _ => rfl))) (blkOk_by (own := [("mark", 11), ("truth", 9)]) (N := nDu) (sc := defScope sDu) (by decide +kernel))
            (fun _ _ _ _ _ => pg_tup (by rfl) (pgs_cons (pg_name (i := 11) scDu.nd (by rfl) (Or.inl (by rfl)) (by exact .inr rfl)) (pgs_cons (pg_name (i := 9) scDu.nd (by rfl) (Or.inl (by rfl)) (by exact .inr rfl)) pgs_nil)))
            (fun _ _ _ _ _ => pts_nil) (fun _ _ _ _ _ => pv 9)) (pa_cons
          (pe_call GCh hr (by rfl) NCh.g NCh.F.kp NCh.b .nil pass0 (pa_cons (pv 0) (pa_cons (pv 1) pa_nil))) pa_nil))))
          (pg_tup rfl (pgs_cons (pg_name (i := 2) scDu.nd rfl (Or.inr rfl)) (pgs_cons (pg_name (i := 3) scDu.nd rfl (Or.inl rfl)) (pgs_cons (pg_name (i := 4) scDu.nd rfl (Or.inl rfl)) pgs_nil)))))
      (pss_cons (ps_for PassesOwn.never rfl (pi_enumA (by rfl) B.enumerate (pa_cons (pv 4) pa_nil)) (pg_tup rfl (pgs_cons (pg_name (i := 5) scDu.nd rfl (Or.inl rfl)) (pgs_cons (pg_name (i := 6) scDu.nd rfl (Or.inl rfl)) pgs_nil)))
        (pss_one (ps_if (pt_cmpR (op_notInD (room65 hr)) (pv 3) (pv 6) (by rfl)) (pss_one (ps_ret (pe_tup (pa_cons pe_str (pa_cons (pv 5) pa_nil))))) pss_nil)))
      (pss_cons (ps_set (i := 7) scDu.nd rfl (Or.inl rfl) (pe_lst pa_nil))
      (pss_cons (ps_for PassesOwn.never rfl (pi_list (pe_call GL (hr.mono (by decide)) (by rfl) NL.g NL.F.kp NL.b .nil pass0 (pa_cons (pe_callB call_len_seq (by rfl) B.len boot_len (pa_cons (pv 2) pa_nil)) pa_nil))) (pg_name (i := 8) scDu.nd rfl (Or.inl rfl))
        (pss_one (ps_for PassesOwn.never rfl (pi_tup (pe_tup (pa_cons pe_bl (pa_cons pe_bl pa_nil)))) (pg_name (i := 9) scDu.nd rfl (Or.inl rfl))
          (pss_cons (ps_set (i := 10) scDu.nd rfl (Or.inr rfl) (pe_tup (pa_cons
              (pe_lc (own := [("at", 12)]) (g := gName 12) (tt := tYes) (te := tOp (rSeqA K) (tVar 2) (tVar 12)) rfl scDu.nd (pi_list (pv 8)) (blkOk_by (own := [("at", 12)]) (N := nDu) (sc := defScope sDu) (by decide +kernel))
                (fun _ _ _ _ _ => pg_name (i := 12) scDu.nd rfl (Or.inl rfl)) (fun _ _ _ _ _ => pts_nil) (fun _ _ _ _ _ => pe_ix ix_seqA (pv 2) (pv 12) (fun _ _ => rfl))) (pa_cons (pv 9) pa_nil))))
          (pss_one (ps_expr (pe_bm PySem.F.plainAttrs_list PySem.F.slot_list_extend PySem.F.type_list_extend mt_extend (pv 7) (pa_cons
              (pe_ifExp (pt_val (pe_callB (cr_all rfl) (by rfl) B.all PyProof.Rows.boot_all (pa_cons
                  (pe_lc (own := [("state", 13)]) (g := gName 13) (tt := tYes) (te := tCall spOh [] E0 (tCons (tVar 10) (tCons (tDZip K (tCons (tVar 2) (tCons (tVar 13) tNil))) tNil))) rfl scDu.nd (pi_seq (pe_ix ix_seqA (pv 4) (pe_un un_neg pe_int) (fun _ _ => rfl))) (blkOk_by (own := [("state", 13)]) (N := nDu) (sc := defScope sDu) (by decide +kernel))
                    (fun _ _ _ _ _ => pg_name (i := 13) scDu.nd rfl (Or.inl rfl)) (fun _ _ _ _ _ => pts_nil) (fun _ _ _ _ _ => pe_call GH (hr.mono (by decide)) (by rfl) NH.g NH.F.kp NH.b .nil pass0 (pa_cons (pv 10) (pa_cons (pe_dictZip rfl (by rfl) B.dict (by rfl) B.zip (pa_cons (pv 2) (pa_cons (pv 13) pa_nil))) pa_nil)))) pa_nil)) (fun _ => rfl))
                (pe_lst (pa_cons (pv 10) pa_nil)) (pe_lst pa_nil)) pa_nil)))))))
      ) (pss_one (ps_ret (pe_tup (pa_cons pe_str (pa_cons (pe_call GN (hr.mono (by decide)) (by rfl) NN.g NN.F.kp NN.b .nil pass0 (pa_cons (pv 2) (pa_cons (pv 7) pa_nil))) pa_nil)))))))), ?_⟩
    obtain ⟨ga, us, rfl, hga, rr⟩ := id hg
    obtain ⟨vk, _, rfl, rk, vt, _, rfl, rt, vn, _, rfl, rn, vr, _, rfl, rr4, rfl⟩ := rr
    obtain ⟨lk, uk, rfl, slk, hk, ruk⟩ := rk
    have luk := ruk.length
    rw [List.length_map] at luk
    have k4 := gok.k4
    have t4 := gok.t4
    have lnm : g.names.length = g.ks.length + g.ts.length := by unfold Gv.names; rw [List.length_append, List.length_map, List.length_map]
    have lkp : g.kept.length = g.ks.length := List.length_map _
    have lbg : g.begun.length = g.ks.length := List.length_map _
    have ndk : g.kept.Nodup := (List.nodup_append.mp gok.nd).1
    have kok : ∀ m ∈ g.kept, PyData.strOk m = true := fun m hm => gNames_ok m (gok.nm m (List.mem_append_left _ hm))
    refine ⟨_, rfl, ga, _, 0, .ref lk, rfl, rfl, .inr (SqT.of hga), atI_nat (j := 0) rfl, lk, rfl, ⟨_, SqL.of hk⟩, fun lN hlN => ?_⟩
    refine lc_list (K := K) (a := lk) (xs := uk) (fun i H' => Same H H' ∧ H' lN = some (.lst (((g.ks.take i).map Prod.fst).map V.str))) ⟨Same.new hlN, upd_same⟩ (fun i H' _ h => SqL.of (h.1 _ _ hk)) ?_ ?_
    · rintro i x H' hx ⟨sm', hz⟩
      obtain ⟨dx, hdx, hrx⟩ := (ruk.same sm').get hx
      rw [List.getElem?_map] at hdx
      cases qk : g.ks[i]? with
      | none => rw [qk] at hdx; cases hdx
      | some kp =>
      rw [qk] at hdx
      cases hdx
      have hil := (List.getElem?_eq_some_iff.mp qk).1
      obtain ⟨p, up, rfl, hp, rp⟩ := hrx
      obtain ⟨v1, _, rfl, r1, v2, _, rfl, r2, rfl⟩ := rp
      cases (show v1 = .str kp.1 from r1)
      refine ⟨p, _, rfl, SqT.of hp, rfl, ?_⟩
      refine ⟨_, _, rfl, _, _, rfl, rfl, ?_⟩
      refine ⟨rfl, ?_⟩
      unfold tYes
      refine iteT ?_
      refine ⟨_, rfl, _, hz, ?_, Same.at sm' hlN, ?_⟩
      · rw [List.length_map, List.length_map, List.length_take]
        exact Nat.lt_of_le_of_lt (show min i g.ks.length ≤ 20 by omega) (by decide)
      · rw [upd_same, List.take_add_one, qk, List.map_append, List.map_append]
        rfl
    rintro H1 ⟨s1, hN⟩
    rw [luk, List.take_length] at hN
    have hN : H1 lN = some (.lst (g.kept.map V.str)) := hN
    refine ⟨_, rfl, ga, _, 0, .ref lk, rfl, rfl, .inr (SqT.of (s1 _ _ hga)), atI_nat (j := 0) rfl, lk, rfl, ⟨_, SqL.of (s1 _ _ hk)⟩, fun lB hlB => ?_⟩
    refine lc_list (K := K) (a := lk) (xs := uk) (fun i H' => Same H1 H' ∧ H' lB = some (.lst (((g.ks.take i).map Prod.snd).map V.bl))) ⟨Same.new hlB, upd_same⟩ (fun i H' _ h => SqL.of (h.1 _ _ (s1 _ _ hk))) ?_ ?_
    · rintro i x H' hx ⟨sm', hz⟩
      obtain ⟨dx, hdx, hrx⟩ := (ruk.same (s1.trans sm')).get hx
      rw [List.getElem?_map] at hdx
      cases qk : g.ks[i]? with
      | none => rw [qk] at hdx; cases hdx
      | some kp =>
      rw [qk] at hdx
      cases hdx
      have hil := (List.getElem?_eq_some_iff.mp qk).1
      obtain ⟨p, up, rfl, hp, rp⟩ := hrx
      obtain ⟨v1, _, rfl, r1, v2, _, rfl, r2, rfl⟩ := rp
      cases (show v2 = .bl kp.2 from r2)
      refine ⟨p, _, rfl, SqT.of hp, rfl, ?_⟩
      refine ⟨_, _, rfl, _, _, rfl, rfl, ?_⟩
      refine ⟨rfl, ?_⟩
      unfold tYes
      refine iteT ?_
      refine ⟨_, rfl, _, hz, ?_, Same.at sm' hlB, ?_⟩
      · rw [List.length_map, List.length_map, List.length_take]
        exact Nat.lt_of_le_of_lt (show min i g.ks.length ≤ 20 by omega) (by decide)
      · rw [upd_same, List.take_add_one, qk, List.map_append, List.map_append]
        rfl
    rintro H2 ⟨s2, hB⟩
    rw [luk, List.take_length] at hB
    have hB : H2 lB = some (.lst (g.begun.map V.bl)) := hB
    have s02 := s1.trans s2
    refine ⟨_, rfl, _, rfl, S1, S2, g, .ref ga, vu, sums, rfl, hg.same s02, gok, hU.same s02, ls4, hsub, fun H3 v0 t s3 rC ht20 hst => ⟨by show 3 ≤ sizeLine; decide, fun tt htt => ?_⟩⟩
    obtain ⟨lC, uC, rfl, fC, hC, ruC⟩ := rC
    have s4 : Same H3 (upd H3 tt (.tup [.ref lN, .ref lB, .ref lC])) := Same.new htt
    refine ⟨tt, _, rfl, SqT.of upd_same, rfl, ?_⟩
    refine ⟨_, _, rfl, _, _, rfl, _, _, rfl, rfl, ?_⟩
    generalize upd H3 tt (.tup [.ref lN, .ref lB, .ref lC]) = H4 at s4 ⊢
    have s24 := s3.trans s4
    have s04 := s02.trans s24
    have hN4 := (s2.trans s24) _ _ hN
    have hB4 := s24 _ _ hB
    have hC4 := s4 _ _ hC
    have ruC4 := ruC.same s4
    clear hN hB hC ruC htt
    have luC := ruC4.length
    rw [List.length_map, List.length_range] at luC
    have atC : ∀ i, i ≤ t → ∀ H', Same H4 H' → ∃ l, uC[i]? = some (.ref l) ∧ Rep (fun a => H2 a = none) H' (stD g sums i) (.ref l) := fun i hi H' s' => by
      obtain ⟨dx, hdx, hrx⟩ := (ruC4.same s').get (List.getElem?_eq_getElem (show i < uC.length by omega))
      rw [List.getElem?_map, List.getElem?_range (by omega)] at hdx
      cases hdx
      obtain ⟨l, ul, e, sl, hl, rl⟩ := hrx
      exact ⟨l, by rw [List.getElem?_eq_getElem (show i < uC.length by omega), e], l, ul, rfl, sl, hl, rl⟩
    refine ⟨_, rfl, lC, uC, rfl, for_enumA (Hb := H4) (.inl (SqL.of hC4)) (fun i σ H' => (∃ o5 o6 : Option V, σ = [some (.ref ga), some vu, some (.ref lN), some (.ref lB), some (.ref lC), o5, o6, none, none, none, none, none, none, none]) ∧ Same H4 H' ∧ ∀ j, j < i → g.begun ∈ stM g sums j) ⟨⟨_, _, rfl⟩, Same.refl _, fun j hj => by cases hj⟩ (fun i σ H' _ h => h.2.1) ?_ ?_⟩
    · rintro i T x σ H' hx ⟨⟨o5, o6, rfl⟩, sm, hin⟩ hT
      have hil : i < uC.length := (List.getElem?_eq_some_iff.mp hx).1
      have sT : Same H' (upd H' T (.tup [.int (i : Nat), x])) := Same.new hT
      obtain ⟨l, el, rl⟩ := atC i (by omega) _ (sm.trans sT)
      rw [el] at hx
      cases hx
      refine ⟨T, _, rfl, SqT.of upd_same, rfl, ?_⟩
      refine ⟨_, _, rfl, _, _, rfl, rfl, ?_⟩
      generalize upd H' T (.tup [.int (i : Nat), .ref l]) = H5 at sT rl ⊢
      have s45 := sm.trans sT
      have rB : Rep (fun _ => True) H5 (rowD g.begun) (.ref lB) := ⟨lB, _, rfl, trivial, s45 _ _ hB4, reps_bls _ _ _⟩
      have okB : (rowD g.begun).ok 1 := oks_bls 0 _
      have okL : (stD g sums i).ok 2 := rows_ok _
      refine ⟨_, rfl, _, rfl, _, _, rB.dp okB, rl.dp okL, D.ok_shaped okB (by decide), D.ok_shaped okL (by decide), _, rfl, ?_⟩
      have ei := any_row g.begun (stM g sums i)
      rw [ei]
      by_cases hb : g.begun ∈ stM g sums i
      · rw [decide_eq_true hb]
        refine iteF ⟨⟨_, _, rfl⟩, s45, fun j hj => ?_⟩
        by_cases z : j = i
        · rw [z]
          exact hb
        · exact hin j (by omega)
      · rw [decide_eq_false hb]
        refine iteT ?_
        refine ⟨_, rfl, by show 2 ≤ sizeLine; decide, fun t2 ht2 => ?_⟩
        refine kL i ?_ hb hin _ (.ref t2) (s04.trans (s45.trans (Same.new ht2))) ⟨t2, _, rfl, upd_same, ⟨_, _, rfl, rfl, _, _, rfl, rfl, rfl⟩⟩
        by_cases z : 1 ≤ i
        · exact z
        · rw [show i = 0 by omega] at hb
          exact absurd ((mem_rows _ _).mpr lbg) hb
    rintro σ H5 ⟨⟨o5, o6, rfl⟩, s45, hin⟩
    obtain ⟨res, eres, kQ⟩ := kK t hst fun i hi => hin i (by omega)
    have hN5 := s45 _ _ hN4
    have hC5 := s45 _ _ hC4
    have s05 := s04.trans s45
    refine ⟨Nat.zero_le _, fun lE hlE => ?_⟩
    have s6 : Same H5 (upd H5 lE (.lst [])) := Same.new hlE
    have hE6 : upd H5 lE (.lst []) lE = some (.lst []) := upd_same
    have fE : H lE = none := s05.free hlE
    generalize upd H5 lE (.lst []) = H6 at s6 hE6 ⊢
    have s06 := s05.trans s6
    have hN6 := s6 _ _ hN5
    have hC6 := s6 _ _ hC5
    have nNE : lN ≠ lE := fun z => by rw [z, hlE] at hN5; cases hN5
    have nCE : lC ≠ lE := fun z => by rw [z, hlE] at hC5; cases hC5
    obtain ⟨lT, elT, rT⟩ := atC t (Nat.le_refl _) _ (s45.trans s6)
    have alast := atI_lastOf (i := t) (by omega) elT
    have rT : Rep (fun b => b ≠ lE) H6 (stD g sums t) (.ref lT) := Rep.mono (fun b hb z => hb.2 (by rw [z]; exact hlE)) (stay_of s6) (show Rep (fun a => H2 a = none ∧ H5 a ≠ none) H5 (stD g sums t) (.ref lT) from by
      obtain ⟨l5, el5, rl5⟩ := atC t (Nat.le_refl _) _ s45
      rw [elT] at el5
      cases el5
      exact rl5.here)
    have stl := stM_len gok sums t
    have strows : ∀ row ∈ stM g sums t, row.length = g.ks.length := fun row hrow => by
      cases t with
      | zero => exact (mem_rows _ _).mp hrow
      | succ t => exact (mem_rows _ _).mp (List.mem_filter.mp hrow).1
    generalize hsts : stM g sums t = sts at rT stl strows eres
    have rT : Rep (fun b => b ≠ lE) H6 (.lst (sts.map rowD)) (.ref lT) := by
      rw [← hsts]
      exact rT
    clear atC hin kL kK hst
    -- all lots
    refine ⟨_, rfl, lN, _, rfl, .inl (SqL.of hN6), g.ks.length, by rw [List.length_map, lkp]; rfl, by omega, fun H7 v7 s7 r7 => ?_⟩
    obtain ⟨lO, uO, rfl, fO, hO, ruO⟩ := r7
    have luO := ruO.length
    rw [List.length_map] at luO
    have nOE : lO ≠ lE := fun z => by
      have fO : H6 lO = none := fO
      rw [z, hE6] at fO
      cases fO
    have ruO : Reps (fun b => b ≠ lE) H7 ((lotsOf (List.range g.ks.length)).map lotD) uO := Reps.mono (fun b hb z => by
      have hb : H6 b = none := hb
      rw [z, hE6] at hb
      cases hb) (stay_of (Same.refl H7)) ruO
    have s07 := s06.trans s7
    have hE7 := s7 _ _ hE6
    have hN7 := s7 _ _ hN6
    have hC7 := s7 _ _ hC6
    have rT7 := rT.same s7
    have l16 : (lotsOf (List.range g.ks.length)).length ≤ 16 := by
      rw [lotsOf_len, List.length_range]
      exact Nat.le_trans (Nat.pow_le_pow_right (by decide) k4) (by decide)
    generalize hG : (fun l : List Nat => [false, true].flatMap (everyOf g.kept sts (l.map fun i => g.kept.getD i ""))) = G
    have eevery : everyM g.kept sts = (lotsOf (List.range g.ks.length)).flatMap G := by rw [every_eq, lkp, ← hG]
    have Glen : ∀ L : List (List Nat), (L.flatMap G).length ≤ 2 * L.length := fun L => by rw [← hG]; exact every_len g.kept sts L
    refine ⟨lO, rfl, ⟨_, SqL.of hO⟩, for_list (K := K) (a := lO) (xs := uO) (fun i σ H' => ∃ (o8 o9 o10 : Option V) (us : List V), σ = [some (.ref ga), some vu, some (.ref lN), some (.ref lB), some (.ref lC), o5, o6, some (.ref lE), o8, o9, o10, none, none, none] ∧ SameS lE H7 H' ∧ H' lE = some (.lst us) ∧ Reps (fun b => H b = none ∧ b ≠ lE) H' ((((lotsOf (List.range g.ks.length)).take i).flatMap G).map sumD) us)
      ⟨_, _, _, [], rfl, SameS.refl _, hE7, rfl⟩ (fun i σ H' _ ⟨_, _, _, _, _, h, _⟩ => SqL.of (h _ _ nOE hO)) ?_ ?_⟩
    · rintro i x σ H' hx ⟨o8, o9, o10, us, rfl, sS, hE, hus⟩
      have sX : Stay (fun b => b ≠ lE) H7 H' := sS.stay hE7 (fun z => z rfl)
      obtain ⟨dx, hdx, hrx⟩ := (Reps.mono (fun _ z => z) sX ruO).get hx
      rw [List.getElem?_map] at hdx
      cases ql : (lotsOf (List.range g.ks.length))[i]? with
      | none => rw [ql] at hdx; cases hdx
      | some lot =>
      rw [ql] at hdx
      cases hdx
      have hil := (List.getElem?_eq_some_iff.mp ql).1
      obtain ⟨lx, ux, rfl, nlx, hlx, rlx⟩ := hrx
      have ex := ints_vals rlx
      subst ex
      have lotl : lot.length ≤ 4 := by
        have := lotsOf_mem (List.range g.ks.length) [[]] 0 (fun l hl => by rw [List.mem_singleton.mp hl]; exact Nat.le_refl _) lot (List.mem_of_getElem? ql)
        rw [List.length_range] at this
        omega
      have lotm : ∀ c ∈ lot, c < g.ks.length := lotsOf_elem (P := fun c => c < g.ks.length) (List.range g.ks.length) [[]] (fun l hl c hc => by rw [List.mem_singleton.mp hl] at hc; cases hc) (fun x hx => List.mem_range.mp hx) lot (List.mem_of_getElem? ql)
      have sH : Same H H' := fun b o e => sS b o (fun z => by rw [z, fE] at e; cases e) (s07 b o e)
      have gl := Glen ((lotsOf (List.range g.ks.length)).take i)
      rw [List.length_take] at gl
      refine ⟨by show 2 ≤ sizeLine; decide, fun tq htq => ?_⟩
      have s8 : Same H' (upd H' tq (.tup [.bl false, .bl true])) := Same.new htq
      have ht8 : upd H' tq (.tup [.bl false, .bl true]) tq = some (.tup [.bl false, .bl true]) := upd_same
      have ntE : tq ≠ lE := fun z => by rw [z, hE] at htq; cases htq
      generalize upd H' tq (.tup [.bl false, .bl true]) = H8 at s8 ht8 ⊢
      generalize hms : (lot.map fun i => g.kept.getD i "") = ms
      refine ⟨tq, rfl, ⟨_, SqT.of ht8⟩, for_tup (K := K) (a := tq) (xs := [.bl false, .bl true]) (fun j σ H9 => ∃ (o9 o10 : Option V) (us : List V), σ = [some (.ref ga), some vu, some (.ref lN), some (.ref lB), some (.ref lC), o5, o6, some (.ref lE), some (.ref lx), o9, o10, none, none, none] ∧ SameS lE H8 H9 ∧ H9 lE = some (.lst us) ∧ Reps (fun b => H b = none ∧ b ≠ lE) H9 (((((lotsOf (List.range g.ks.length)).take i).flatMap G) ++ ([false, true].take j).flatMap (everyOf g.kept sts ms)).map sumD) us)
        ⟨_, _, us, rfl, SameS.refl _, s8 _ _ hE, by rw [List.take_zero]; show Reps _ _ (((((lotsOf (List.range g.ks.length)).take i).flatMap G) ++ []).map sumD) _; rw [List.append_nil]; exact hus.same s8⟩ (fun j σ H9 _ ⟨_, _, _, _, h, _⟩ => SqT.of (h _ _ ntE ht8)) ?_ ?_⟩
      · rintro j y σ H9 hy ⟨o9, o10, us, rfl, sS9, hE9, hus9⟩
        obtain ⟨sd, hsd, rfl⟩ : ∃ sd, [false, true][j]? = some sd ∧ y = .bl sd := by
          match j, hy with
          | 0, hy => cases hy; exact ⟨false, rfl, rfl⟩
          | 1, hy => cases hy; exact ⟨true, rfl, rfl⟩
        have hj2 : j < 2 := (List.getElem?_eq_some_iff.mp hsd).1
        have sS79 := (sS.trans (SameS.of s8)).trans sS9
        have hlx9 := sS9 _ _ nlx (s8 _ _ hlx)
        have hN9 := sS79 _ _ nNE hN7
        have hC9 := sS79 _ _ nCE hC7
        have rT9 : Rep (fun b => b ≠ lE) H9 (.lst (sts.map rowD)) (.ref lT) := Rep.mono (fun _ z => z) (sS79.stay hE7 (fun z => z rfl)) rT7
        have sH9 : Same H H9 := fun b o e => sS79 b o (fun z => by rw [z, fE] at e; cases e) (s07 b o e)
        have lus := hus9.length
        rw [List.length_map, List.length_append] at lus
        have gl2 : (([false, true].take j).flatMap (everyOf g.kept sts ms)).length ≤ 2 := by
          have one : ∀ t, (everyOf g.kept sts ms t).length ≤ 1 := fun t => by
            unfold everyOf
            split <;> simp
          have h0 := one false
          have h1 := one true
          match j, hj2 with
          | 0, _ => exact Nat.zero_le _
          | 1, _ =>
            show (everyOf g.kept sts ms false ++ []).length ≤ 2
            rw [List.append_nil]
            omega
        -- the sum
        refine ⟨_, rfl, lx, rfl, ⟨_, SqL.of hlx9⟩, fun lM hlM => ?_⟩
        refine lc_list (K := K) (a := lx) (xs := intsL lot) (fun q H10 => Same H9 H10 ∧ H10 lM = some (.lst (((lot.take q).map fun i => g.kept.getD i "").map V.str))) ⟨Same.new hlM, upd_same⟩ (fun q H10 _ h => SqL.of (h.1 _ _ hlx9)) ?_ ?_
        · rintro q y2 H10 hy2 ⟨s10, hz⟩
          obtain ⟨c, hci, rfl⟩ : ∃ c : Nat, lot[q]? = some c ∧ y2 = .int (c : Nat) := by
            unfold intsL at hy2
            rw [List.getElem?_map] at hy2
            cases e : lot[q]? with
            | none => rw [e] at hy2; cases hy2
            | some z => rw [e] at hy2; exact ⟨z, rfl, (Option.some.inj hy2).symm⟩
          have hcl := lotm c (List.mem_of_getElem? hci)
          have hql := (List.getElem?_eq_some_iff.mp hci).1
          refine ⟨rfl, ?_⟩
          unfold tYes
          refine iteT ?_
          refine ⟨_, rfl, _, rfl, lN, _, (c : Nat), .str (g.kept.getD c ""), rfl, rfl, .inl (SqL.of (s10 _ _ hN9)), atI_nat (by rw [List.getElem?_map, List.getElem?_eq_getElem (by omega), List.getD_eq_getElem?_getD, List.getElem?_eq_getElem (by omega)]; rfl), _, hz, ?_, Same.at s10 hlM, ?_⟩
          · rw [List.length_map, List.length_map, List.length_take]
            exact Nat.lt_of_le_of_lt (show min q lot.length ≤ 4 by omega) (by decide)
          · rw [upd_same, List.take_add_one, hci, List.map_append, List.map_append]
            rfl
        rintro H10 ⟨s10, hM⟩
        have e5 : lot.take (intsL lot).length = lot := by
          unfold intsL
          rw [List.length_map, List.take_length]
        rw [e5, hms] at hM
        refine ⟨_, rfl, by show 2 ≤ sizeLine; decide, fun tO htO => ?_⟩
        have s11 : Same H10 (upd H10 tO (.tup [.ref lM, .bl sd])) := Same.new htO
        have hO11 : upd H10 tO (.tup [.ref lM, .bl sd]) tO = some (.tup [.ref lM, .bl sd]) := upd_same
        generalize upd H10 tO (.tup [.ref lM, .bl sd]) = H11 at s11 hO11 ⊢
        have s911 := s10.trans s11
        have fM : H lM = none := sH9.free hlM
        have nME : lM ≠ lE := fun z => by rw [z, hE9] at hlM; cases hlM
        have hM11 := s11 _ _ hM
        have rO : Rep (fun b => H b = none ∧ b ≠ lE) H11 (sumD (ms, sd)) (.ref tO) := ⟨tO, _, rfl, hO11, .ref lM, _, rfl, ⟨lM, _, rfl, ⟨fM, nME⟩, hM11, reps_strs _ _ _⟩, .bl sd, _, rfl, rfl, rfl⟩
        have hE11 := s911 _ _ hE9
        have hN11 := s911 _ _ hN9
        have hC11 := s911 _ _ hC9
        have rT11 := rT9.same s911
        have mkept : ∀ m ∈ ms, m ∈ g.kept := fun m hm => by
          rw [← hms] at hm
          obtain ⟨c, hc, rfl⟩ := List.mem_map.mp hm
          have := lotm c hc
          rw [List.getD_eq_getElem?_getD, List.getElem?_eq_getElem (by omega)]
          exact List.getElem_mem _
        refine ⟨_, rfl, .inl ⟨rfl, _, SqL.of hE11⟩, ?_⟩
        refine all_lc (K := K) (S := fun b => b ≠ lE) (σ := [some (.ref ga), some vu, some (.ref lN), some (.ref lB), some (.ref lC), o5, o6, some (.ref lE), some (.ref lx), some (.bl sd), some (.ref tO), none, none, none]) (vs := [13]) (tl := tOp (rSeqA K) (tVar 4) (tUn (rU fun i => .int (-i)) (tC (.int 1)))) (te := tCall spOh [] E0 (tCons (tVar 10) (tCons (tDZip K (tCons (tVar 2) (tCons (tVar 13) tNil))) tNil))) (g := gName 13) (d := .lst (sts.map rowD)) (ds := sts.map rowD) (v := .ref lT) (fun dx => oddM g.kept (rowInv dx) ms == sd) rT11 rfl (by rw [List.length_map]; omega) (fun R h => ⟨_, rfl, 1, rfl, lC, _, -1, .ref lT, rfl, rfl, .inl (SqL.of hC11), alast, h⟩) (fun dx x H12 R hm s12 hx kk => ?_) mono_name fun H12 s12 => ⟨_, rfl, ?_⟩
        · obtain ⟨row, hrow, rfl⟩ := List.mem_map.mp hm
          rw [rowInv_row] at kk
          have lrow := strows row hrow
          obtain ⟨b, ur, rfl, _, hb, rrow⟩ := hx
          have er := bls_vals rrow
          subst er
          refine ⟨rfl, _, rfl, _, rfl, _, rfl, lN, b, g.kept.map Sum.inr, row.map V.bl, rfl, ?_, SqL.of hb, by rw [List.length_map, List.length_map, lkp, lrow], ?_, fun q hq => ?_⟩
          · rw [List.map_map]
            exact SqL.of (s12 _ _ hN11)
          · rw [List.length_map, lkp]
            exact Nat.le_trans k4 (by decide)
          rw [kvR_zip, kvR_merge ndk]
          have s13 : Same H12 (upd H12 q (.dK (kvR g.kept row))) := Same.new hq
          exact ⟨_, (ms, sd), .ref tO, q, kvR g.kept row, valM g.kept row, rfl, rO.same (s12.trans s13), upd_same, fun m hm => kvR_get (by rw [lrow, ← lkp]; exact List.idxOf_lt_length_of_mem (mkept m hm)) (mkept m hm), kk _ s13⟩
        have eall : (sts.map rowD).all (fun dx => oddM g.kept (rowInv dx) ms == sd) = sts.all fun row => oddM g.kept row ms == sd := by
          rw [List.all_map]
          congr 1
          funext row
          show (oddM g.kept (rowInv (rowD row)) ms == sd) = _
          rw [rowInv_row]
        rw [eall]
        have hE12 := s12 _ _ hE11
        have et : ([false, true].take (j + 1)).flatMap (everyOf g.kept sts ms) = ([false, true].take j).flatMap (everyOf g.kept sts ms) ++ everyOf g.kept sts ms sd := by
          rw [List.take_add_one, hsd, List.flatMap_append]
          congr 1
          show everyOf g.kept sts ms sd ++ [] = _
          rw [List.append_nil]
        have sS12 : SameS lE H8 H12 := sS9.trans (SameS.of (s911.trans s12))
        have hus12 := (hus9.same s911).same s12
        cases ea : sts.all fun row => oddM g.kept row ms == sd with
        | true =>
          refine iteT ?_
          have ee : everyOf g.kept sts ms sd = [(ms, sd)] := by unfold everyOf; rw [ea, if_pos rfl]
          refine ⟨_, rfl, by show 1 ≤ sizeLine; decide, fun lZ hlZ => ?_⟩
          have s13 : Same H12 (upd H12 lZ (.lst [.ref tO])) := Same.new hlZ
          have hZ13 : upd H12 lZ (.lst [.ref tO]) lZ = some (.lst [.ref tO]) := upd_same
          have hE13 := s13 _ _ hE12
          generalize upd H12 lZ (.lst [.ref tO]) = H13 at s13 hZ13 hE13 ⊢
          refine ⟨lE, lZ, us, _, rfl, rfl, hE13, hZ13, Nat.le_trans (show us.length + 1 ≤ 100 by omega) (by decide), ?_⟩
          have st : Stay (fun b => H b = none ∧ b ≠ lE) H13 (upd H13 lE (.lst (us ++ [.ref tO]))) := stay_upd hE13 (nd_lst fun z => z.2 rfl)
          refine ⟨_, _, us ++ [.ref tO], rfl, (sS12.trans (SameS.of s13)).upd, upd_same, ?_⟩
          rw [et, ee, ← List.append_assoc, List.map_append]
          exact Reps.append (Reps.mono (fun _ z => z) st (hus12.same s13)) (Reps.one (Rep.mono (fun _ z => z) st ((rO.same s12).same s13)))
        | false =>
          refine iteF ?_
          have ee : everyOf g.kept sts ms sd = [] := by unfold everyOf; rw [ea, if_neg (by decide)]
          refine ⟨Nat.zero_le _, fun lZ hlZ => ?_⟩
          have s13 : Same H12 (upd H12 lZ (.lst [])) := Same.new hlZ
          have hZ13 : upd H12 lZ (.lst []) lZ = some (.lst []) := upd_same
          have hE13 := s13 _ _ hE12
          generalize upd H12 lZ (.lst []) = H13 at s13 hZ13 hE13 ⊢
          refine ⟨lE, lZ, us, _, rfl, rfl, hE13, hZ13, Nat.le_trans (show us.length + 0 ≤ 100 by omega) (by decide), ?_⟩
          have st : Stay (fun b => H b = none ∧ b ≠ lE) H13 (upd H13 lE (.lst (us ++ []))) := stay_upd hE13 (nd_lst fun z => z.2 rfl)
          refine ⟨_, _, us ++ [], rfl, (sS12.trans (SameS.of s13)).upd, upd_same, ?_⟩
          rw [et, ee, List.append_nil, List.append_nil]
          rw [List.append_nil] at st
          exact Reps.mono (fun _ z => z) st (hus12.same s13)
      · rintro σ H9 ⟨o9, o10, us, rfl, sS9, hE9, hus9⟩
        refine ⟨_, _, _, us, rfl, (sS.trans (SameS.of s8)).trans sS9, hE9, ?_⟩
        rw [List.take_add_one, ql, List.flatMap_append]
        have e7 : (some lot).toList.flatMap G = ([false, true].take [V.bl false, V.bl true].length).flatMap (everyOf g.kept sts ms) := by
          show G lot ++ [] = _
          rw [List.append_nil, ← hG, ← hms]
          rfl
        rw [e7]
        exact hus9
    · rintro σ H' ⟨o8, o9, o10, us, rfl, sS, hE, hus⟩
      rw [luO, List.take_length, ← eevery] at hus
      have sH : Same H H' := fun b o e => sS b o (fun z => by rw [z, fE] at e; cases e) (s07 b o e)
      have l32 : (everyM g.kept sts).length ≤ 200 := by
        have := Glen (lotsOf (List.range g.ks.length))
        rw [← eevery] at this
        omega
      have mem : ∀ o ∈ everyM g.kept sts, o.1.length ≤ 20 ∧ ∀ m ∈ o.1, PyData.strOk m = true := fun o ho => by
        have hl := every_lot ho
        refine ⟨?_, fun m hm => kok m ?_⟩
        · have := lotsOf_mem g.kept [[]] 0 (fun l hl => by rw [List.mem_singleton.mp hl]; exact Nat.le_refl _) o.1 hl
          omega
        · exact lotsOf_elem (P := fun m => m ∈ g.kept) g.kept [[]] (fun l hl c hc => by rw [List.mem_singleton.mp hl] at hc; cases hc) (fun x hx => hx) o.1 hl m hm
      refine ⟨_, rfl, _, rfl, (fun _ => True), lN, lE, g.kept, everyM g.kept sts, res, rfl, sS _ _ nNE hN7, ⟨lE, us, rfl, trivial, hE, Reps.mono (fun _ _ => trivial) (stay_of (Same.refl H')) hus⟩, eres, by omega, l32, kok, mem, fun H9 v9 s9 r9 => ⟨by show 2 ≤ sizeLine; decide, fun t2 ht2 => ?_⟩⟩
      have s10 : Same H9 (upd H9 t2 (.tup [.str "kept", v9])) := Same.new ht2
      exact kQ _ (.ref t2) (sH.trans (s9.trans s10)) ⟨t2, _, rfl, upd_same, _, _, rfl, rfl, v9, _, rfl, r9.same s10, rfl⟩
end
end Q1
set_option Elab.async false
set_option linter.all false
set_option maxRecDepth 100000
set_option maxHeartbeats 4000000
namespace Q1
open PySem L2 LamX PyProof.Rows
mutual
/-- its ints and texts are short -/
def D.nice : D → Prop
  | .lst xs => nices xs
  | .tup xs => nices xs
  | .int i => i.natAbs < 1000000000000
  | .str s => s.cps.size ≤ 8
  | .dic => False
  | _ => True
def nices : List D → Prop
  | [] => True
  | x :: xs => x.nice ∧ nices xs
end
theorem nices_mem : ∀ {ds : List D}, (∀ d ∈ ds, d.nice) → nices ds
  | [], _ => trivial
  | d :: ds, h => ⟨h d List.mem_cons_self, nices_mem fun x hx => h x (List.mem_cons_of_mem _ hx)⟩
mutual
theorem Loose.nice : ∀ {d e : D}, Loose d e → d.nice → e.nice
  | .lst xs, e, h, k => by
    obtain ⟨ys, he, l⟩ := h
    have := Looses.nice l k
    cases e with
    | lst zs => cases (show some zs = some ys from he); exact this
    | tup zs => cases (show some zs = some ys from he); exact this
    | _ => cases he
  | .tup xs, e, h, k => by
    obtain ⟨ys, he, l⟩ := h
    have := Looses.nice l k
    cases e with
    | lst zs => cases (show some zs = some ys from he); exact this
    | tup zs => cases (show some zs = some ys from he); exact this
    | _ => cases he
  | .non, _, h, k => by cases h; exact k
  | .bl _, _, h, k => by cases h; exact k
  | .int _, _, h, k => by cases h; exact k
  | .str _, _, h, k => by cases h; exact k
  | .dic, _, h, k => by cases h; exact k
theorem Looses.nice : ∀ {ds es : List D}, Looses ds es → nices ds → nices es
  | [], _, h, _ => by cases h; trivial
  | _ :: _, _, h, k => by
    obtain ⟨y, r, rfl, h1, h2⟩ := h
    exact ⟨Loose.nice h1 k.1, Looses.nice h2 k.2⟩
end
mutual
theorem Loose.sz : ∀ {d e : D}, Loose d e → e.sz = d.sz
  | .lst xs, e, h => by
    obtain ⟨ys, he, l⟩ := h
    rw [D.sz_items he, Looses.sz l]
    rfl
  | .tup xs, e, h => by
    obtain ⟨ys, he, l⟩ := h
    rw [D.sz_items he, Looses.sz l]
    rfl
  | .non, _, h => by cases h; rfl
  | .bl _, _, h => by cases h; rfl
  | .int _, _, h => by cases h; rfl
  | .str _, _, h => by cases h; rfl
  | .dic, _, h => by cases h; rfl
theorem Looses.sz : ∀ {ds es : List D}, Looses ds es → szs es = szs ds
  | [], _, h => by cases h; rfl
  | d :: ds, _, h => by
    obtain ⟨y, r, rfl, h1, h2⟩ := h
    show y.sz + szs r = d.sz + szs ds
    rw [Loose.sz h1, Looses.sz h2]
end
mutual
theorem Loose.ok : ∀ {n : Nat} {d e : D}, Loose d e → d.ok n → e.ok n
  | 0, .lst _, _, _, k => k.elim
  | 0, .tup _, _, _, k => k.elim
  | n + 1, .lst xs, e, h, k => by
    obtain ⟨ys, he, l⟩ := h
    have := Looses.ok (n := n) l k
    cases e with
    | lst zs => cases (show some zs = some ys from he); exact this
    | tup zs => cases (show some zs = some ys from he); exact this
    | _ => cases he
  | n + 1, .tup xs, e, h, k => by
    obtain ⟨ys, he, l⟩ := h
    have := Looses.ok (n := n) l k
    cases e with
    | lst zs => cases (show some zs = some ys from he); exact this
    | tup zs => cases (show some zs = some ys from he); exact this
    | _ => cases he
  | _, .non, _, h, k => by cases h; exact k
  | _, .bl _, _, h, k => by cases h; exact k
  | _, .int _, _, h, k => by cases h; exact k
  | _, .str _, _, h, k => by cases h; exact k
  | _, .dic, _, h, k => by cases h; exact k
theorem Looses.ok : ∀ {n : Nat} {ds es : List D}, Looses ds es → oks n ds → oks n es
  | _, [], _, h, _ => by cases h; trivial
  | _, _ :: _, _, h, k => by
    obtain ⟨y, r, rfl, h1, h2⟩ := h
    exact ⟨Loose.ok h1 k.1, Looses.ok h2 k.2⟩
end
mutual
theorem nice_weight : ∀ {d : D}, d.nice → d.py.weight + 1 ≤ 42 * d.sz
  | .lst xs, h => by
    have := nices_weight (ds := xs) h
    show PyData.weightAll (pys xs) + 1 ≤ 42 * (szs xs + 1)
    omega
  | .tup xs, h => by
    have := nices_weight (ds := xs) h
    show PyData.weightAll (pys xs) + 1 ≤ 42 * (szs xs + 1)
    omega
  | .int i, h => by
    have h : i.natAbs < 1000000000000 := h
    show (if i == 0 then 0 else i.natAbs.log2 + 1) + 1 ≤ 42 * 1
    split
    · omega
    · rename_i hz
      have hz2 : i.natAbs ≠ 0 := by
        intro z
        exact hz (by simpa using Int.natAbs_eq_zero.mp z)
      have := (Nat.log2_lt hz2 (k := 40)).mpr (Nat.lt_of_lt_of_le h (by decide))
      omega
  | .str s, h => by
    have h : s.cps.size ≤ 8 := h
    show s.cps.size + 1 ≤ 42 * 1
    omega
  | .non, _ => (show 0 + 1 ≤ 42 * 1 by decide)
  | .bl _, _ => (show 0 + 1 ≤ 42 * 1 by decide)
  | .dic, h => h.elim
theorem nices_weight : ∀ {ds : List D}, nices ds → PyData.weightAll (pys ds) ≤ 42 * szs ds
  | [], _ => Nat.zero_le _
  | d :: ds, h => by
    have h1 := nice_weight h.1
    have h2 := nices_weight h.2
    have h3 := d.sz_pos
    show d.py.weight + 1 + PyData.weightAll (pys ds) ≤ 42 * (d.sz + szs ds)
    omega
end
mutual
theorem nice_ints : ∀ {d : D}, d.nice → d.py.intsShort 13 = true ∧ d.py.showable = true
  | .lst xs, h => by
    obtain ⟨a, b⟩ := nices_ints (ds := xs) h
    exact ⟨by unfold D.py; simpa only [PyData.intsShort] using a, by unfold D.py; simpa only [PyData.showable] using b⟩
  | .tup xs, h => by
    obtain ⟨a, b⟩ := nices_ints (ds := xs) h
    exact ⟨by unfold D.py; simpa only [PyData.intsShort] using a, by unfold D.py; simpa only [PyData.showable] using b⟩
  | .int i, h => by
    have h : i.natAbs < 1000000000000 := h
    unfold D.py
    simp only [PyData.intsShort, PyData.showable, decide_eq_true_eq]
    refine ⟨PyData.shown_int_le (Nat.lt_of_lt_of_le h (by decide)), ?_⟩
    by_cases hz : i.natAbs = 0
    · rw [hz]; decide
    · exact (Nat.log2_lt hz).mpr (Nat.lt_of_lt_of_le h (by
        have : (2 : Nat) ^ 40 ≤ 2 ^ 1920 := Nat.pow_le_pow_right (by decide) (by decide)
        omega))
  | .str s, h => by unfold D.py; exact ⟨by simp only [PyData.intsShort], by simp only [PyData.showable]⟩
  | .non, _ => by unfold D.py; exact ⟨by simp only [PyData.intsShort], by simp only [PyData.showable]⟩
  | .bl _, _ => by unfold D.py; exact ⟨by simp only [PyData.intsShort], by simp only [PyData.showable]⟩
  | .dic, h => h.elim
theorem nices_ints : ∀ {ds : List D}, nices ds → PyData.intsShortAll 13 (pys ds) = true ∧ PyData.showableAll (pys ds) = true
  | [], _ => by unfold pys; exact ⟨by simp only [PyData.intsShortAll], by simp only [PyData.showableAll]⟩
  | d :: ds, h => by
    obtain ⟨a, b⟩ := nice_ints h.1
    obtain ⟨c, e⟩ := nices_ints h.2
    unfold pys
    exact ⟨by simp only [PyData.intsShortAll, a, c, Bool.and_self], by simp only [PyData.showableAll, b, e, Bool.and_self]⟩
end
/-- what repr asks -/
theorem nice_repr {n : Nat} {d : D} (h : d.nice) (k : d.ok n) (hn : n ≤ 64) (hs : d.sz ≤ 23000) : d.py.showable = true ∧ d.py.hasDict = false ∧ d.py.depth ≤ 64 ∧ d.py.shown.length ≤ sizeLine := by
  obtain ⟨a, b⟩ := D.ok_lay k
  have w := nice_weight h
  have l : PyData.layable0 d.py = true := by
    show (PyData.canLay0 d.py && decide (PyData.depth d.py ≤ 64) && decide (PyData.weight d.py ≤ 2 ^ 20)) = true
    rw [a, decide_eq_true (Nat.le_trans b hn), decide_eq_true (show PyData.weight d.py ≤ 2 ^ 20 by omega)]
    rfl
  exact ⟨(nice_ints h).2, PyData.hasDict_of_layable l, Nat.le_trans b hn, PyData.shown_fits_of_layable0 (by decide) (by decide) l (nice_ints h).1⟩
mutual
theorem Rep.hereL {S : Addr → Prop} {H : Hp} : ∀ {d : D} {v : V}, Rep S H d v → Rep (fun a => S a ∧ ∃ us, H a = some (.lst us)) H d v
  | .non, _, h => h
  | .bl _, _, h => h
  | .int _, _, h => h
  | .str _, _, h => h
  | .dic, _, h => h
  | .lst _, _, h => by
    obtain ⟨a, vs, rfl, sa, ha, r⟩ := h
    exact ⟨a, vs, rfl, ⟨sa, vs, ha⟩, ha, Reps.hereL r⟩
  | .tup _, _, h => by
    obtain ⟨a, vs, rfl, ha, r⟩ := h
    exact ⟨a, vs, rfl, ha, Reps.hereL r⟩
theorem Reps.hereL {S : Addr → Prop} {H : Hp} : ∀ {ds : List D} {vs : List V}, Reps S H ds vs → Reps (fun a => S a ∧ ∃ us, H a = some (.lst us)) H ds vs
  | [], _, h => h
  | _ :: _, _, h => by
    obtain ⟨v, r, rfl, h1, h2⟩ := h
    exact ⟨v, r, rfl, Rep.hereL h1, Reps.hereL h2⟩
end
mutual
theorem Loose.refl : ∀ d : D, Loose d d
  | .lst xs => ⟨xs, rfl, Looses.refl xs⟩
  | .tup xs => ⟨xs, rfl, Looses.refl xs⟩
  | .non | .bl _ | .int _ | .str _ | .dic => rfl
theorem Looses.refl : ∀ ds : List D, Looses ds ds
  | [] => rfl
  | d :: ds => ⟨d, ds, rfl, Loose.refl d, Looses.refl ds⟩
end
theorem loose_seq {d e : D} {ds : List D} (h : Loose d e) (hi : d.items? = some ds) : ∃ es, e.items? = some es ∧ Looses ds es := by
  cases d with
  | lst xs => cases (show some xs = some ds from hi); exact h
  | tup xs => cases (show some xs = some ds from hi); exact h
  | _ => cases hi
theorem loose_two {a b e : D} {d : D} (h : Loose d e) (hi : d.items? = some [a, b]) : ∃ x y, e.items? = some [x, y] ∧ Loose a x ∧ Loose b y := by
  obtain ⟨es, he, x, r, rfl, hx, y, r2, rfl, hy, e3⟩ := loose_seq h hi
  cases (show r2 = [] from e3)
  exact ⟨x, y, he, hx, hy⟩
theorem looses_eq {α β : Type} {f : α → D} {h : D → β} {k : α → β} : ∀ {l : List α} {es : List D}, (∀ x ∈ l, ∀ e, Loose (f x) e → h e = k x) → Looses (l.map f) es → es.map h = l.map k
  | [], _, _, r => by
    cases (show _ = [] from r)
    rfl
  | x :: l, _, hh, r => by
    obtain ⟨y, r2, rfl, h1, h2⟩ := r
    rw [List.map_cons, List.map_cons, hh x List.mem_cons_self y h1, looses_eq (fun z hz => hh z (List.mem_cons_of_mem _ hz)) h2]
theorem looses_all {α : Type} {f : α → D} {p : D → Prop} : ∀ {l : List α} {es : List D}, (∀ x ∈ l, ∀ e, Loose (f x) e → p e) → Looses (l.map f) es → ∀ e ∈ es, p e
  | [], _, _, r, e, he => by
    cases (show _ = [] from r)
    cases he
  | x :: l, _, hh, r, e, he => by
    obtain ⟨y, r2, rfl, h1, h2⟩ := r
    rcases List.mem_cons.mp he with rfl | he
    · exact hh x List.mem_cons_self _ h1
    · exact looses_all (fun z hz => hh z (List.mem_cons_of_mem _ hz)) h2 e he
theorem lit_loose {l : Str × Bool} {e : D} (h : Loose (litD l) e) : e.items? = some [.str l.1, .bl l.2] := by
  obtain ⟨x, y, he, hx, hy⟩ := loose_two h rfl
  cases (show x = .str l.1 from hx)
  cases (show y = .bl l.2 from hy)
  exact he
theorem hnd_loose {l : Str × Str} {e : D} (h : Loose (hndD l) e) : e.items? = some [.str l.1, .str l.2] := by
  obtain ⟨x, y, he, hx, hy⟩ := loose_two h rfl
  cases (show x = .str l.1 from hx)
  cases (show y = .str l.2 from hy)
  exact he
theorem gNames_name : ∀ x ∈ gNames, isNameS x = true := by decide +kernel
theorem gNames_len : ∀ x ∈ gNames, x.cps.size ≤ 8 := by decide +kernel
theorem gNames_short : ∀ x ∈ gNames, x.length ≤ 8 := by decide +kernel
theorem short_name {x : Str} (h : x ∈ gNames) : (D.str x).short := Nat.le_trans (gNames_short x h) (by decide)
theorem pair_of {e q : D} {m : Str} (h : e.items? = some [.str m, q]) (hm : m ∈ gNames) : pairB e = true := by
  unfold pairB
  rw [h]
  exact gNames_name m hm
theorem isList_of {e : D} {es : List D} (h : e.items? = some es) : e.isList = true := by
  unfold D.isList
  rw [h]
  rfl
theorem lits_loose {names : List Str} : ∀ {c : List (Str × Bool)} {es : List D} {acc : List (Str × Bool)}, Looses (c.map litD) es → (acc.map Prod.fst ++ c.map Prod.fst).Nodup → (∀ m ∈ c.map Prod.fst, m ∈ names) → optFold (litS names) es acc = some (acc ++ c)
  | [], _, acc, r, _, _ => by
    cases (show _ = [] from r)
    rw [List.append_nil]
    rfl
  | l :: c, _, acc, r, nd, hm => by
    obtain ⟨y, r2, rfl, h1, h2⟩ := r
    have e := lit_loose h1
    have hmem : l.1 ∈ names := hm l.1 List.mem_cons_self
    have h3 : lit1 names y = some l := by
      unfold lit1
      rw [e]
      exact if_pos hmem
    have nin : ¬ l.1 ∈ acc.map Prod.fst := fun z => (List.nodup_append.mp nd).2.2 _ z _ List.mem_cons_self rfl
    have h4 : litS names acc y = some (acc ++ [l]) := by
      unfold litS
      rw [h3]
      dsimp only
      rw [if_neg nin]
    unfold optFold
    rw [h4]
    show optFold (litS names) r2 (acc ++ [l]) = _
    rw [lits_loose (acc := acc ++ [l]) h2 (by rw [List.map_append, List.append_assoc]; exact nd) (fun m h => hm m (List.mem_cons_of_mem _ h)), List.append_assoc]
    rfl
theorem game_loose {g : Gv} (ok : GvOk g) {e : D} (h : Loose (gmD g) e) : gameB e = true ∧ GameIn e ∧ nmsG e = g.names ∧ ∃ dk dt dn dr ks ts ns, GameAs e dk dt dn dr ks ts ns ∧ ts.map handOf = g.hands ∧ nxOf g.names ns = g.ps ∧ ks.map truthOf = g.begun ∧ ks.length = g.ks.length := by
  obtain ⟨es, hi, dk, r1, rfl, hk, dt, r2, rfl, ht, dn, r3, rfl, hn, dr, r4, rfl, hr, e5⟩ := loose_seq (ds := [.lst (g.ks.map litD), .lst (g.ts.map hndD), .lst (g.ns.map D.str), .lst (g.rs.map clauseD)]) h rfl
  cases (show r4 = [] from e5)
  obtain ⟨ks, ik, lk⟩ := loose_seq hk rfl
  obtain ⟨ts, it, lt⟩ := loose_seq ht rfl
  obtain ⟨ns, inn, ln⟩ := loose_seq hn rfl
  obtain ⟨rs, ir, lr⟩ := loose_seq hr rfl
  have k4 := ok.k4
  have t4 := ok.t4
  have t1 := ok.t1
  have rl := ok.rl
  have lks := lk.length
  rw [List.length_map] at lks
  have lts := lt.length
  rw [List.length_map] at lts
  have lns := ln.length
  rw [List.length_map] at lns
  have lrs := lr.length
  rw [List.length_map] at lrs
  have kmem : ∀ x ∈ g.ks, x.1 ∈ gNames := fun x hx => ok.nm _ (List.mem_append_left _ (List.mem_map_of_mem hx))
  have tmem : ∀ x ∈ g.ts, x.1 ∈ gNames := fun x hx => ok.nm _ (List.mem_append_right _ (List.mem_map_of_mem hx))
  have kp : ∀ x ∈ ks, ∃ m b, x.items? = some [.str m, .bl b] ∧ m ∈ gNames := looses_all (fun x hx e he => ⟨x.1, x.2, lit_loose he, kmem x hx⟩) lk
  have tp : ∀ x ∈ ts, ∃ m z, x.items? = some [.str m, .str z] ∧ m ∈ gNames ∧ (z = ("we" : Str) ∨ z = "they") := looses_all (fun x hx e he => ⟨x.1, x.2, hnd_loose he, tmem x hx, ok.hd x hx⟩) lt
  have np : ∀ x ∈ ns, ∃ m, x = .str m ∧ m ∈ g.names := looses_all (f := D.str) (p := fun e => ∃ m, e = .str m ∧ m ∈ g.names) (fun x hx e he => ⟨x, (show e = .str x from he), ok.np x hx⟩) ln
  have enm : nmsG e = g.names := by
    unfold nmsG nmsP
    rw [hi]
    dsimp only
    rw [ik, it]
    dsimp only
    rw [looses_eq (k := Prod.fst) (fun x _ e he => by unfold firstS; rw [lit_loose he]) lk, looses_eq (k := Prod.fst) (fun x _ e he => by unfold firstS; rw [hnd_loose he]) lt]
    rfl
  have pk : pairsB dk = true := by
    unfold pairsB
    rw [ik]
    exact List.all_eq_true.mpr fun x hx => by
      obtain ⟨m, b, e, hm⟩ := kp x hx
      exact pair_of e hm
  have pt : pairsB dt = true := by
    unfold pairsB
    rw [it]
    exact List.all_eq_true.mpr fun x hx => by
      obtain ⟨m, b, e, hm, _⟩ := tp x hx
      exact pair_of e hm
  have ik2 : itemsL dk = ks := by unfold itemsL; rw [ik]
  have it2 : itemsL dt = ts := by unfold itemsL; rw [it]
  have in2 : itemsL dn = ns := by unfold itemsL; rw [inn]
  have gb : gameB e = true := by
    unfold gameB
    rw [hi]
    dsimp only
    rw [pk, pt, ik2, it2, in2, enm]
    have h1 : ts.isEmpty = false := by
      cases ts with
      | nil => simp at lts; omega
      | cons _ _ => rfl
    have h2 : ks.all (fun x => (sndD x).isBool) = true := List.all_eq_true.mpr fun x hx => by
      obtain ⟨m, b, e, _⟩ := kp x hx
      unfold sndD
      rw [e]
      rfl
    have h3 : ts.all (fun x => isHandG (sndD x)) = true := List.all_eq_true.mpr fun x hx => by
      obtain ⟨m, z, e, _, hz⟩ := tp x hx
      unfold sndD
      rw [e]
      show (decide (z = ("we" : Str)) || decide (z = ("they" : Str))) = true
      rw [Bool.or_eq_true, decide_eq_true_iff, decide_eq_true_iff]
      exact hz
    have h4 : dn.isOf ks.length = true := by
      unfold D.isOf
      rw [inn]
      show (ns.length == ks.length) = true
      rw [beq_iff_eq, lns, ok.nl, lks]
    have h5 : ns.all (isNextG g.names) = true := List.all_eq_true.mpr fun x hx => by
      obtain ⟨m, rfl, hm⟩ := np x hx
      exact decide_eq_true hm
    have h6 : clausesB g.names dr = true := by
      unfold clausesB
      rw [ir]
      refine List.all_eq_true.mpr (looses_all (p := fun e => (litsOf g.names e).isSome = true) (fun c hc e he => ?_) lr)
      obtain ⟨es, ie, le⟩ := loose_seq (ds := c.map litD) he rfl
      unfold litsOf
      rw [ie]
      dsimp only
      rw [lits_loose (acc := []) le (by rw [List.map_nil, List.nil_append]; exact List.Sublist.nodup (ok.rp c hc) ok.nd) (fun m hm => (ok.rp c hc).subset hm)]
      rfl
    rw [h1, h2, h3, h4, h5, h6, decide_eq_true ok.nd]
    rfl
  have shk : shortL ks := fun d hd xs hx x hxm => by
    obtain ⟨m, b, e, hm⟩ := kp d hd
    rw [e] at hx
    cases hx
    rcases List.mem_cons.mp hxm with rfl | hxm
    · exact short_name hm
    · rw [List.mem_singleton.mp hxm]
      trivial
  have sht : shortL ts := fun d hd xs hx x hxm => by
    obtain ⟨m, z, e, hm, hz⟩ := tp d hd
    rw [e] at hx
    cases hx
    rcases List.mem_cons.mp hxm with rfl | hxm
    · exact short_name hm
    · rw [List.mem_singleton.mp hxm]
      rcases hz with rfl | rfl
      · exact Nat.le_trans (show ("we" : Str).length ≤ 8 by decide) (by decide)
      · exact Nat.le_trans (show ("they" : Str).length ≤ 8 by decide) (by decide)
  have sm : ∀ {d : D} {xs : List D}, d.items? = some xs → xs.length ≤ 1000 → d.small := fun {d xs} h hl => by
    unfold D.small
    rw [h]
    exact hl
  have hc9 : g.names.length ≤ 8 := by
    unfold Gv.names
    rw [List.length_append, List.length_map, List.length_map]
    omega
  refine ⟨gb, ⟨fun k t n r hq => ?_⟩, enm, dk, dt, dn, dr, ks, ts, ns, ⟨hi, ik, it, inn, fun x hx => ?_, fun x hx => ?_, ?_, ?_, ?_, ?_, ?_⟩, ?_, ?_, ?_, lks⟩
  · rw [hi] at hq
    cases hq
    refine ⟨sm ik (by omega), sm it (by omega), sm inn (by rw [lns, ok.nl]; omega), sm ir (by omega), fun ds hds => ?_, fun ds hds => ?_, fun ds hds => ?_⟩
    · rw [ik] at hds
      cases hds
      exact ⟨by omega, shk⟩
    · rw [it] at hds
      cases hds
      exact ⟨by omega, sht⟩
    · rw [ir] at hds
      cases hds
      refine looses_all (p := D.small) (fun c hc e he => ?_) lr
      obtain ⟨es, ie, le⟩ := loose_seq (ds := c.map litD) he rfl
      have := le.length
      rw [List.length_map] at this
      have h2 := (ok.rp c hc).length_le
      rw [List.length_map] at h2
      exact sm ie (by omega)
  · obtain ⟨m, b, e, _⟩ := kp x hx
    exact ⟨m, b, e⟩
  · obtain ⟨m, z, e, _, hz⟩ := tp x hx
    exact ⟨m, z, e, hz⟩
  · rw [enm]
    exact ok.nd
  · rw [enm]
    exact fun m hm => gNames_ok m (ok.nm m hm)
  · have h1 : ks.map firstS = g.ks.map Prod.fst := looses_eq (fun x _ e he => by unfold firstS; rw [lit_loose he]) lk
    have h2 : ts.map firstS = g.ts.map Prod.fst := looses_eq (fun x _ e he => by unfold firstS; rw [hnd_loose he]) lt
    rw [enm, h1, h2]
    rfl
  · rw [lns, ok.nl, lks]
  · rw [enm]
    exact np
  · exact looses_eq (k := Prod.snd) (fun x _ e he => by unfold handOf; rw [hnd_loose he]) lt
  · have h1 : ns.map strOf = g.ns.map id := looses_eq (fun x _ e he => by rw [show e = .str x from he]; rfl) ln
    rw [List.map_id] at h1
    unfold nxOf Gv.ps
    rw [← h1, List.map_map]
    rfl
  · exact looses_eq (k := Prod.snd) (fun x _ e he => by unfold truthOf; rw [lit_loose he]) lk
theorem strs_loose : ∀ {ms : List Str} {es : List D}, Looses (ms.map D.str) es → es = ms.map D.str
  | [], _, r => r
  | m :: ms, _, r => by
    obtain ⟨y, r2, rfl, h1, h2⟩ := r
    cases (show y = .str m from h1)
    rw [strs_loose h2]
    rfl
theorem sum_loose {names : List Str} (hn : ∀ m ∈ names, m ∈ gNames) (nd : names.Nodup) (hl : names.length ≤ 8) {o : List Str × Bool} (ho : o.1.Sublist names) {e : D} (h : Loose (sumD o) e) : sumOf names e = some (o.1, o.2) ∧ SumIn e := by
  obtain ⟨l, y, he, hx, hy⟩ := loose_two (a := .lst (o.1.map D.str)) (b := .bl o.2) h rfl
  cases (show y = .bl o.2 from hy)
  obtain ⟨es, il, le⟩ := loose_seq (ds := o.1.map D.str) hx rfl
  have e2 := strs_loose le
  subst e2
  have es2 : (o.1.map D.str).map strOf = o.1 := by
    rw [List.map_map]
    have : (strOf ∘ D.str) = id := rfl
    rw [this, List.map_id]
  have sb : sumB e = true := by
    unfold sumB
    rw [he]
    dsimp only
    have h1 : itemsL l = o.1.map D.str := by unfold itemsL; rw [il]
    rw [h1, es2, isList_of il, decide_eq_true (List.Sublist.nodup ho nd)]
    have h2 : (o.1.map D.str).all D.isName = true := by
      rw [List.all_map]
      exact List.all_eq_true.mpr fun m hm => gNames_name m (hn m (ho.subset hm))
    rw [h2]
    rfl
  refine ⟨?_, fun l2 b hq ds hds => ?_⟩
  · rw [sumOf_eq sb he il, es2, if_pos fun m hm => ho.subset hm]
  · rw [he] at hq
    cases hq
    rw [il] at hds
    cases hds
    refine ⟨by rw [List.length_map]; have := ho.length_le; omega, fun x hx => ?_⟩
    obtain ⟨m, hm, rfl⟩ := List.mem_map.mp hx
    exact short_name (hn m (ho.subset hm))
theorem codes_loose {names : List Str} (hn : ∀ m ∈ names, m ∈ gNames) (nd : names.Nodup) (hl : names.length ≤ 8) : ∀ {sums : List (List Str × Bool)} {es : List D} {acc : List Nat}, (∀ o ∈ sums, o.1.Sublist names) → Looses (sums.map sumD) es → optFold (sumS names) es acc = some (acc ++ sums.map fun o => codeS names o.1 o.2)
  | [], _, acc, _, r => by
    cases (show _ = [] from r)
    show some acc = some (acc ++ [])
    rw [List.append_nil]
  | o :: sums, _, acc, ho, r => by
    obtain ⟨y, r2, rfl, h1, h2⟩ := r
    have hs := (sum_loose hn nd hl (ho o List.mem_cons_self) h1).1
    have e3 : tellM names (codeS names o.1 o.2) = o.1 := by
      have e := sub_filter (ho o List.mem_cons_self) nd
      rw [e]
      exact tell_code nd _ _
    have h4 : sumS names acc y = some (acc ++ [codeS names o.1 o.2]) := by
      unfold sumS
      rw [hs]
      dsimp only
      rw [if_pos e3]
    unfold optFold
    rw [h4]
    show optFold (sumS names) r2 (acc ++ [codeS names o.1 o.2]) = _
    rw [codes_loose hn nd hl (fun x hx => ho x (List.mem_cons_of_mem _ hx)) h2, List.append_assoc]
    rfl
theorem sums_loose {g : Gv} (ok : GvOk g) {sums : List (List Str × Bool)} (hs : ∀ o ∈ sums, o.1.Sublist g.names) (ls : sums.length ≤ 4) {e : D} (h : Loose (.lst (sums.map sumD)) e) : codesOf g.names e = some (g.codes sums) ∧ e.small ∧ ∀ ds, e.items? = some ds → ∀ x ∈ ds, SumIn x := by
  obtain ⟨es, he, le⟩ := loose_seq (ds := sums.map sumD) h rfl
  have k4 := ok.k4
  have t4 := ok.t4
  have hl : g.names.length ≤ 8 := by
    unfold Gv.names
    rw [List.length_append, List.length_map, List.length_map]
    omega
  refine ⟨?_, ?_, fun ds hds => ?_⟩
  · unfold codesOf
    rw [he]
    exact codes_loose ok.nm ok.nd hl hs le
  · unfold D.small
    rw [he]
    have := le.length
    rw [List.length_map] at this
    show es.length ≤ 1000
    omega
  · rw [he] at hds
    cases hds
    exact looses_all (p := SumIn) (fun o ho e he => (sum_loose ok.nm ok.nd hl (hs o ho) he).2) le
end Q1
set_option Elab.async false
set_option linter.all false
set_option maxRecDepth 100000
set_option maxHeartbeats 4000000
namespace Q1
open PySem L2 LamX PyProof.Rows
/-! ### what is due, and what both defs answer -/
def Out (g : Gv) (sums : List (List Str × Bool)) (o : D) : Prop :=
  (∃ r, 1 ≤ r ∧ r ≤ g.ks.length + 1 ∧ o = lostD r ∧ Sg (g.codes sums) g.hands g.ps r g.begun = false ∧ ∀ i, i < r → Sg (g.codes sums) g.hands g.ps i g.begun = true) ∨
  ((∀ i, Sg (g.codes sums) g.hands g.ps i g.begun = true) ∧ ∃ j L, j ≤ g.ks.length ∧ Stat (g.codes sums) g.hands g.ps g.ks.length j ∧ LotAt (g.codes sums) g.hands g.ps g.ks.length j L ∧ o = keptD g.names L)
section
variable {g : Gv} {sums : List (List Str × Bool)} {o : D}
theorem begun_len (g : Gv) : g.begun.length = g.ks.length := List.length_map _
theorem out_exists (ok : GvOk g) (hs : ∀ o ∈ sums, o.1.Sublist g.names) : ∃ o, Out g sums o := by
  have G := gd_of ok hs
  rcases ends G (b := g.begun) (begun_len g) with ⟨r, h1, h2, h3, h4⟩ | ⟨all, j, hj, hst⟩
  · exact ⟨_, .inl ⟨r, h1, h2, rfl, h3, h4⟩⟩
  · rcases lot_exists G j with em | ⟨L, hL⟩
    · have := em g.begun (begun_len g)
      rw [all j] at this
      cases this
    · exact ⟨_, .inr ⟨all, j, L, hj, hst, hL, rfl⟩⟩
theorem begun_mem (ok : GvOk g) (hs : ∀ o ∈ sums, o.1.Sublist g.names) (i : Nat) : g.begun ∈ stM g sums i ↔ Sg (g.codes sums) g.hands g.ps i g.begun = true := by
  rw [stM_eq ok hs]
  unfold St
  rw [List.mem_filter]
  exact ⟨fun h => h.2, fun h => ⟨(mem_rows _ _).mpr (begun_len g), h⟩⟩
theorem du_one {vg vu : V} {S1 S2 : Addr → Prop} {H : Hp} {Q : VK} {E : XK} (ok : GvOk g) (hs : ∀ o ∈ sums, o.1.Sublist g.names) (ls : sums.length ≤ 4) (ho : Out g sums o) (hg : Rep S1 H (gmD g) vg) (hu : Rep S2 H (.lst (sums.map sumD)) vu)
    (k : ∀ H' v, Same H H' → Rep (fun _ => True) H' o v → Q v H') : spDu [vg, vu] H Q E := by
  have G := gd_of ok hs
  have k4 := ok.k4
  refine ⟨S1, S2, g, vg, vu, sums, rfl, hg, ok, hu, ls, hs, fun r r1 hr hb H' v s' rv => ?_, fun t ht hb => ?_⟩
  · have hr2 : Sg (g.codes sums) g.hands g.ps r g.begun = false := by
      cases e : Sg (g.codes sums) g.hands g.ps r g.begun with
      | false => rfl
      | true => exact absurd ((begun_mem ok hs r).mpr e) hr
    rcases ho with ⟨q, q1, q2, rfl, h3, h4⟩ | ⟨all, _⟩
    · have hrq : r = q := by
        rcases Nat.lt_trichotomy r q with z | z | z
        · have := h4 r z
          rw [hr2] at this
          cases this
        · exact z
        · have := (begun_mem ok hs q).mp (hb q z)
          rw [h3] at this
          cases this
      rw [← hrq] at k
      exact k H' v s' rv
    · rw [all r] at hr2
      cases hr2
  · have stt : stM g sums (t + 1) = stM g sums t → Stat (g.codes sums) g.hands g.ps g.ks.length t := fun e => by
      rw [stM_eq ok hs, stM_eq ok hs] at e
      exact eq_st e
    rcases ho with ⟨q, q1, q2, rfl, h3, h4⟩ | ⟨all, j, L, hj, hst, hL, rfl⟩
    · exfalso
      by_cases z : q ≤ t
      · have := (begun_mem ok hs q).mp (hb q z)
        rw [h3] at this
        cases this
      · rcases ht with e | rfl
        · have h5 := stat_ge G (stt e) (i := q) (by omega) g.begun (begun_len g)
          rw [h3, (begun_mem ok hs t).mp (hb t (Nat.le_refl _))] at h5
          cases h5
        · omega
    · have eS : St (g.codes sums) g.hands g.ps g.ks.length t = St (g.codes sums) g.hands g.ps g.ks.length j := by
        by_cases z : j ≤ t
        · exact st_eq (stat_ge G hst z)
        · rcases ht with e | rfl
          · exact (st_eq (stat_ge G (stt e) (i := j) (by omega))).symm
          · omega
      refine ⟨L.map fun c => (tellM g.names c, c % 2 == 1), ?_, fun H' v s' rv => k H' v s' ?_⟩
      · rw [stM_eq ok hs, eS]
        exact lot_names G hL (kept := g.kept) (turns := g.ts.map Prod.fst) (List.length_map _) ok.nd
      · have e : (L.map fun c => (tellM g.names c, c % 2 == 1)).map sumD = L.map (toldD g.names) := by
          rw [List.map_map]
          rfl
        rw [e] at rv
        exact rv
theorem names_len (ok : GvOk g) : g.names.length ≤ 8 := by
  have k4 := ok.k4
  have t4 := ok.t4
  unfold Gv.names
  rw [List.length_append, List.length_map, List.length_map]
  omega
theorem sfe_one {dg du : D} {vg vu : V} {S1 S2 : Addr → Prop} {H : Hp} {Q : VK} {E : XK} {CG CS : Addr} (ok : GvOk g) (hs : ∀ o ∈ sums, o.1.Sublist g.names) (ls : sums.length ≤ 4) (ho : Out g sums o) (lg : Loose (gmD g) dg) (lu : Loose (.lst (sums.map sumD)) du) (hg : Rep S1 H dg vg) (hu : Rep S2 H du vu)
    (k : ∀ H' v, Same H H' → Rep (fun a => H a = none) H' o v → Q v H') : spSfe CG CS [vg, vu] H Q E := by
  obtain ⟨gb, gi, enm, dk, dt, dn, dr, ks, ts, ns, ga, eh, ep, eb, lk⟩ := game_loose ok lg
  obtain ⟨ec, sm, si⟩ := sums_loose ok hs ls lu
  have G := gd_of ok hs
  have nl8 := names_len ok
  refine ⟨S1, S2, dg, du, vg, vu, rfl, hg, gi, .inr ⟨gb, hu, sm, si, by rw [enm]; omega, .inr ⟨g.codes sums, dk, dt, dn, dr, ks, ts, ns, by rw [enm]; exact ec, by unfold Gv.codes; rw [List.length_map]; omega, ga, ?_, ?_, ?_⟩⟩⟩
  · rw [eh, enm, ep, lk]
    exact G
  · rw [eh, enm, ep, eb]
    intro r r1 hr hb H' v s' rv
    rcases ho with ⟨q, q1, q2, rfl, h3, h4⟩ | ⟨all, _⟩
    · have hrq : r = q := by
        rcases Nat.lt_trichotomy r q with z | z | z
        · have := h4 r z
          rw [hr] at this
          cases this
        · exact z
        · have := hb q z
          rw [h3] at this
          cases this
      rw [← hrq] at k
      exact k H' v s' rv
    · rw [all r] at hr
      cases hr
  · rw [eh, enm, ep, eb, lk]
    intro t L2 hb st2 hL2 H' v s' rv
    rcases ho with ⟨q, q1, q2, rfl, h3, h4⟩ | ⟨all, j, L, hj, hst, hL, rfl⟩
    · exfalso
      by_cases z : q ≤ t
      · have := hb q z
        rw [h3] at this
        cases this
      · have h5 := stat_ge G st2 (i := q) (by omega) g.begun (begun_len g)
        rw [h3, hb t (Nat.le_refl _)] at h5
        cases h5
    · have eL : L2 = L := lot_uniq G hL2 hL fun row hn => by
        by_cases z : j ≤ t
        · exact stat_ge G hst z row hn
        · exact (stat_ge G st2 (i := j) (by omega) row hn).symm
      rw [eL] at rv
      exact k H' v s' rv
end
/-! ### sizes -/
mutual
theorem D.le_sz {M : Nat} : ∀ {d : D}, d.sz ≤ M → d.le M
  | .lst xs, h => by
    have h : szs xs + 1 ≤ M := h
    have := szs_len xs
    exact ⟨by omega, les_szs (by omega)⟩
  | .tup xs, h => by
    have h : szs xs + 1 ≤ M := h
    exact les_szs (ds := xs) (by omega)
  | .non, _ => trivial
  | .bl _, _ => trivial
  | .int _, _ => trivial
  | .str _, _ => trivial
  | .dic, _ => trivial
theorem les_szs {M : Nat} : ∀ {ds : List D}, szs ds ≤ M → les M ds
  | [], _ => trivial
  | d :: ds, h => by
    have h : d.sz + szs ds ≤ M := h
    exact ⟨D.le_sz (by omega), les_szs (by omega)⟩
end
mutual
theorem D.nl_sz : ∀ d : D, d.nl ≤ d.sz
  | .lst xs => Nat.succ_le_succ (nls_szs xs)
  | .tup xs => Nat.le_succ_of_le (nls_szs xs)
  | .non => Nat.zero_le _
  | .bl _ => Nat.zero_le _
  | .int _ => Nat.zero_le _
  | .str _ => Nat.zero_le _
  | .dic => Nat.zero_le _
theorem nls_szs : ∀ ds : List D, nls ds ≤ szs ds
  | [] => Nat.le_refl _
  | d :: ds => Nat.add_le_add (D.nl_sz d) (nls_szs ds)
end
theorem szs_map {α : Type} {f : α → D} {M : Nat} : ∀ {l : List α}, (∀ x ∈ l, (f x).sz ≤ M) → szs (l.map f) ≤ M * l.length
  | [], _ => Nat.zero_le _
  | x :: l, h => by
    have h1 := h x List.mem_cons_self
    have h2 := szs_map (l := l) fun y hy => h y (List.mem_cons_of_mem _ hy)
    show (f x).sz + szs (l.map f) ≤ _
    rw [List.length_cons, Nat.mul_succ]
    omega
theorem oks_map {α : Type} {f : α → D} {n : Nat} {l : List α} (h : ∀ x ∈ l, (f x).ok n) : oks n (l.map f) := oks_mem fun d hd => by
  obtain ⟨x, hx, rfl⟩ := List.mem_map.mp hd
  exact h x hx
theorem nices_map {α : Type} {f : α → D} {l : List α} (h : ∀ x ∈ l, (f x).nice) : nices (l.map f) := nices_mem fun d hd => by
  obtain ⟨x, hx, rfl⟩ := List.mem_map.mp hd
  exact h x hx
theorem tellG_sub (c : Nat) : ∀ (ms : List Str) (p : Nat), (tellG c p ms).Sublist ms
  | [], _ => List.Sublist.refl _
  | m :: ms, p => by
    show (if c &&& mbM p = 0 then tellG c (p + 1) ms else m :: tellG c (p + 1) ms).Sublist _
    split
    · exact List.Sublist.cons _ (tellG_sub c ms (p + 1))
    · exact List.Sublist.cons_cons _ (tellG_sub c ms (p + 1))
section
variable {g : Gv} {sums : List (List Str × Bool)} {o : D}
theorem name_cps (ok : GvOk g) {m : Str} (h : m ∈ g.names) : PyData.strOk m = true ∧ m.cps.size ≤ 8 := ⟨gNames_ok m (ok.nm m h), gNames_len m (ok.nm m h)⟩
theorem sumD_fine (ok : GvOk g) {q : List Str × Bool} (h : q.1.Sublist g.names) : (sumD q).ok 2 ∧ (sumD q).sz ≤ 11 ∧ (sumD q).nice := by
  have nl8 := names_len ok
  have hl := h.length_le
  refine ⟨⟨oks_map fun m hm => ok_str (name_cps ok (h.subset hm)).1, trivial, trivial⟩, ?_, ⟨nices_map fun m hm => (name_cps ok (h.subset hm)).2, trivial, trivial⟩⟩
  have h1 : szs (q.1.map D.str) ≤ 1 * q.1.length := szs_map fun x _ => Nat.le_refl _
  show (szs (q.1.map D.str) + 1 + (1 + 0)) + 1 ≤ 11
  omega
theorem sums_fine (ok : GvOk g) (hs : ∀ o ∈ sums, o.1.Sublist g.names) (ls : sums.length ≤ 4) : (D.lst (sums.map sumD)).ok 3 ∧ (D.lst (sums.map sumD)).sz ≤ 45 ∧ (D.lst (sums.map sumD)).nice := by
  refine ⟨oks_map fun q hq => (sumD_fine ok (hs q hq)).1, ?_, nices_map fun q hq => (sumD_fine ok (hs q hq)).2.2⟩
  have h1 : szs (sums.map sumD) ≤ 11 * sums.length := szs_map fun q hq => (sumD_fine ok (hs q hq)).2.1
  show szs (sums.map sumD) + 1 ≤ 45
  omega
theorem litD_fine (ok : GvOk g) {l : Str × Bool} (h : l.1 ∈ g.names) : (litD l).ok 1 ∧ (litD l).sz ≤ 3 ∧ (litD l).nice := ⟨⟨ok_str (name_cps ok h).1, trivial, trivial⟩, Nat.le_refl _, ⟨(name_cps ok h).2, trivial, trivial⟩⟩
theorem hndD_fine (ok : GvOk g) {l : Str × Str} (h : l.1 ∈ g.names) (h2 : l.2 = ("we" : Str) ∨ l.2 = "they") : (hndD l).ok 1 ∧ (hndD l).sz ≤ 3 ∧ (hndD l).nice := by
  have h3 : PyData.strOk l.2 = true ∧ l.2.cps.size ≤ 8 := by
    rcases h2 with e | e <;> rw [e] <;> decide +kernel
  exact ⟨⟨ok_str (name_cps ok h).1, ok_str h3.1, trivial⟩, Nat.le_refl _, ⟨(name_cps ok h).2, h3.2, trivial⟩⟩
theorem clauseD_fine (ok : GvOk g) {c : List (Str × Bool)} (h : (c.map Prod.fst).Sublist g.names) : (clauseD c).ok 2 ∧ (clauseD c).sz ≤ 25 ∧ (clauseD c).nice := by
  have hm : ∀ l ∈ c, l.1 ∈ g.names := fun l hl => h.subset (List.mem_map_of_mem hl)
  have nl8 := names_len ok
  have hl := h.length_le
  rw [List.length_map] at hl
  refine ⟨oks_map fun l hl => (litD_fine ok (hm l hl)).1, ?_, nices_map fun l hl => (litD_fine ok (hm l hl)).2.2⟩
  have h1 : szs (c.map litD) ≤ 3 * c.length := szs_map fun l hl => (litD_fine ok (hm l hl)).2.1
  show szs (c.map litD) + 1 ≤ 25
  omega
theorem gm_fine (ok : GvOk g) : (gmD g).ok 4 ∧ (gmD g).sz ≤ 200 ∧ (gmD g).nice := by
  have k4 := ok.k4
  have t4 := ok.t4
  have rl := ok.rl
  have nl := ok.nl
  have mk : ∀ l ∈ g.ks, l.1 ∈ g.names := fun l hl => List.mem_append_left _ (List.mem_map_of_mem hl)
  have mt : ∀ l ∈ g.ts, l.1 ∈ g.names := fun l hl => List.mem_append_right _ (List.mem_map_of_mem hl)
  refine ⟨⟨D.ok_le (n := 2) (d := .lst (g.ks.map litD)) (oks_map fun l hl => (litD_fine ok (mk l hl)).1) (by decide), D.ok_le (n := 2) (d := .lst (g.ts.map hndD)) (oks_map fun l hl => (hndD_fine ok (mt l hl) (ok.hd l hl)).1) (by decide), oks_map fun m hm => ok_str (name_cps ok (ok.np m hm)).1, (show (D.lst (g.rs.map clauseD)).ok 3 from oks_map fun c hc => (clauseD_fine ok (ok.rp c hc)).1), trivial⟩, ?_,
    ⟨nices_map fun l hl => (litD_fine ok (mk l hl)).2.2, nices_map fun l hl => (hndD_fine ok (mt l hl) (ok.hd l hl)).2.2, nices_map fun m hm => (name_cps ok (ok.np m hm)).2, nices_map fun c hc => (clauseD_fine ok (ok.rp c hc)).2.2, trivial⟩⟩
  have h1 : szs (g.ks.map litD) ≤ 3 * g.ks.length := szs_map fun l hl => (litD_fine ok (mk l hl)).2.1
  have h2 : szs (g.ts.map hndD) ≤ 3 * g.ts.length := szs_map fun l hl => (hndD_fine ok (mt l hl) (ok.hd l hl)).2.1
  have h3 : szs (g.ns.map D.str) ≤ 1 * g.ns.length := szs_map fun l hl => Nat.le_refl _
  have h4 : szs (g.rs.map clauseD) ≤ 25 * g.rs.length := szs_map fun c hc => (clauseD_fine ok (ok.rp c hc)).2.1
  show (szs (g.ks.map litD) + 1) + ((szs (g.ts.map hndD) + 1) + ((szs (g.ns.map D.str) + 1) + ((szs (g.rs.map clauseD) + 1) + 0))) + 1 ≤ 200
  omega
theorem out_fine (ok : GvOk g) (hs : ∀ o ∈ sums, o.1.Sublist g.names) (ho : Out g sums o) : o.ok 4 ∧ o.sz ≤ 50 ∧ (∃ x y, o = .tup [.str x, y] ∧ ((x = "kept") ∨ (x = "lost" ∧ ∃ r : Nat, y = .int (r : Nat) ∧ r ≤ g.ks.length + 1))) := by
  rcases ho with ⟨r, _, h2, rfl, _⟩ | ⟨all, j, L, hj, hst, hL, rfl⟩
  · exact ⟨⟨ok_str (by decide +kernel), trivial, trivial⟩, (show (3 : Nat) ≤ 50 by decide), _, _, rfl, .inr ⟨rfl, r, rfl, h2⟩⟩
  · have k4 := ok.k4
    have hl := lot_short (gd_of ok hs) hL (begun_len g) (all j)
    have f : ∀ c ∈ L, (toldD g.names c).ok 2 ∧ (toldD g.names c).sz ≤ 11 ∧ (toldD g.names c).nice := fun c _ => sumD_fine ok (q := (tellM g.names c, c % 2 == 1)) (tellG_sub c g.names 0)
    refine ⟨⟨ok_str (by decide +kernel), (show (D.lst (L.map (toldD g.names))).ok 3 from oks_map fun c hc => (f c hc).1), trivial⟩, ?_, _, _, rfl, .inl rfl⟩
    have h1 : szs (L.map (toldD g.names)) ≤ 11 * L.length := szs_map fun c hc => (f c hc).2.1
    show 1 + ((szs (L.map (toldD g.names)) + 1) + 0) + 1 ≤ 50
    omega
end
theorem Late.at {S : Addr → Prop} {K : Nat} {H H' : Hp} (l : Late S K H H') {a : Addr} {o : HO} (e : H a = some o) (n : ¬ S a) : H' a = some o := by
  rcases l a o e with ⟨_, _, _, sa, _⟩ | ⟨_, h⟩
  · exact absurd sa n
  · exact h
theorem late_same {H0 H1 H2 : Hp} {K : Nat} (s : Same H0 H1) (l : Late (fun b => H0 b = none) K H1 H2) : Same H0 H2 := fun a o e => l.at (s a o e) (fun z => by rw [z] at e; cases e)
section
variable {X : Cx} {CX : CXT} {k : Nat} {f : Addr} {fd : FuncData} {ps ks : List Str} {sp : Sp} {E : XK} {x : Str} {p pos : Pos} {kws : List Keyword} {tk : TA} {g : List Value → List Value → List Value} {gV : List V → List V → List V}
/-- f(k = v, ..) -/
theorem pe_callKw (F : FnOk X.prog X.w X.K X.mg X.base CX k f fd ps sp) (hr : Room k X.A) (hg : Gl X x) (hm : X.mg x = some (.ref f)) (hk : PySem.W.keepIn X.K (.ref f) = true) (hb : KBinds X.K fd ps ks g gV) (hx : Passes CX X E) (hkw : PK X kws tk)
    (hall : (backToKw pos (keywordEach kws X.env)).all (·.1.isSome) = true := by rfl) (hks : (backToKw pos (keywordEach kws X.env)).filterMap (·.1) = ks := by rfl) (hdb : (x == ("__debug__" : Str)) = false := by decide)
    (hpl : ((backTo pos (starEach [] X.env)).any (·.1) || (backToKw pos (keywordEach kws X.env)).any (·.1.isNone)) = false := by rfl) :
    PE X (.Call (.Name x p) [] kws pos) (tCallK sp gV E tNil tk) := by
  refine ⟨fun pins s σ H Q I h => ?_⟩
  refine wpAny_Call_Name_kw (ld_glob I hg hm ?_ hdb)
  refine PySem.W.callWith_KW0 (h₀ := X.base) I.ok.mod.kin hk hall ?_ hpl
  refine thn (hkw.run pos pins s σ H _ I h) fun ws s2 ⟨zs, H2, I2, rz, q2⟩ => ⟨I2.kIn, ?_⟩
  rw [hks]
  exact run_fnk (us := []) (vs := []) F hr hb hx I2 .nil rz q2
end
/-- all by keywords, in the other order -/
def gRev : List Value → List Value → List Value
  | [], ws => ws.reverse
  | _ :: _, _ => []
def vRev : List V → List V → List V
  | [], ws => ws.reverse
  | _ :: _, _ => []
theorem rev_rel {vs : List V} {us : List Value} {zs : List V} {ws : List Value} (r1 : Vals vs us) (r2 : Vals zs ws) : Vals (vRev vs zs) (gRev us ws) := by
  cases r1 with
  | nil => exact r2.reverse
  | cons _ _ => exact .nil
theorem kb_sfe {K : PySem.W.Frag} {f : Addr} {fd : FuncData} (F : Fun K "sums_for_ever" "sums_for_ever" sSfe f fd) : KBinds K fd ["game", "sums"] ["sums", "game"] gRev vRev := by
  obtain ⟨oc, od, kV, doc, pm, an, cdv, ct, osl, rfl, lk, hcd⟩ := F.ex
  refine ⟨fun s us ws X hl => ?_, fun r1 r2 => rev_rel r1 r2⟩
  cases us with
  | cons _ _ => cases hl
  | nil =>
    have hl2 : ws.length = 2 := by
      have z : ws.reverse.length = 2 := hl
      rw [List.length_reverse] at z
      exact z
    match ws, hl2 with
    | [a, b], _ => exact .of_eq rfl
end Q1
set_option Elab.async false
set_option linter.all false
set_option maxRecDepth 100000
set_option maxHeartbeats 4000000
namespace Q1
open PySem L2 LamX PyProof.Rows
theorem rep_any {S : Addr → Prop} {H : Hp} {d : D} {v : V} (r : Rep S H d v) : Rep (fun _ => True) H d v := Rep.mono (fun _ _ => trivial) (fun _ _ e _ => e) r
mutual
/-- none of its lists begins with an int -/
def D.noL : D → Prop
  | .lst xs => (∀ i ys, xs ≠ .int i :: ys) ∧ noLs xs
  | .tup xs => noLs xs
  | _ => True
def noLs : List D → Prop
  | [] => True
  | x :: xs => x.noL ∧ noLs xs
end
theorem noLs_map {α : Type} {f : α → D} : ∀ {l : List α}, (∀ x ∈ l, (f x).noL) → noLs (l.map f)
  | [], _ => trivial
  | x :: l, h => ⟨h x List.mem_cons_self, noLs_map fun y hy => h y (List.mem_cons_of_mem _ hy)⟩
mutual
theorem Rep.off {S : Addr → Prop} {H : Hp} {a : Addr} {c : Int} {us : List V} (ha : H a = some (.lst (.int c :: us))) : ∀ {d : D} {v : V}, Rep S H d v → d.noL → Rep (fun b => S b ∧ b ≠ a) H d v
  | .non, _, h, _ => h
  | .bl _, _, h, _ => h
  | .int _, _, h, _ => h
  | .str _, _, h, _ => h
  | .dic, _, h, _ => h
  | .lst xs, _, h, k => by
    obtain ⟨l, vs, rfl, sl, hl, r⟩ := h
    refine ⟨l, vs, rfl, ⟨sl, fun z => ?_⟩, hl, Reps.off ha r k.2⟩
    subst z
    rw [ha] at hl
    cases hl
    cases xs with
    | nil => cases (show V.int c :: us = [] from r)
    | cons x xs =>
      obtain ⟨v, r2, e, h1, h2⟩ := r
      cases e
      cases x with
      | int i => exact k.1 i xs rfl
      | lst _ => obtain ⟨_, _, z, _⟩ := h1; cases z
      | tup _ => obtain ⟨_, _, z, _⟩ := h1; cases z
      | dic => obtain ⟨_, z, _⟩ := h1; cases z
      | non => cases (show V.int c = V.non from h1)
      | bl b => cases (show V.int c = V.bl b from h1)
      | str b => cases (show V.int c = V.str b from h1)
  | .tup xs, _, h, k => by
    obtain ⟨l, vs, rfl, hl, r⟩ := h
    exact ⟨l, vs, rfl, hl, Reps.off ha r k⟩
theorem Reps.off {S : Addr → Prop} {H : Hp} {a : Addr} {c : Int} {us : List V} (ha : H a = some (.lst (.int c :: us))) : ∀ {ds : List D} {vs : List V}, Reps S H ds vs → noLs ds → Reps (fun b => S b ∧ b ≠ a) H ds vs
  | [], _, h, _ => h
  | _ :: _, _, h, k => by
    obtain ⟨v, r, rfl, h1, h2⟩ := h
    exact ⟨v, r, rfl, Rep.off ha h1 k.1, Reps.off ha h2 k.2⟩
end
theorem strs_noL : ∀ l : List Str, (D.lst (l.map D.str)).noL
  | [] => ⟨fun i ys z => (nomatch z), trivial⟩
  | m :: l => ⟨fun i ys z => (nomatch z), noLs_map (l := m :: l) fun _ _ => trivial⟩
theorem out_noL {g : Gv} {sums : List (List Str × Bool)} {o : D} (ho : Out g sums o) : o.noL := by
  rcases ho with ⟨r, _, _, rfl, _⟩ | ⟨_, j, L, _, _, _, rfl⟩
  · exact ⟨trivial, trivial, trivial⟩
  · refine ⟨trivial, ⟨fun i ys z => ?_, noLs_map fun c _ => ⟨strs_noL _, trivial, trivial⟩⟩, trivial⟩
    cases L with
    | nil => cases z
    | cons c L => exact nomatch z
section
variable {P : Program} {w : World} {K : PySem.W.Frag} {mg : Str → Option Value} {base : Heap}
/-! ### _law_case_right -/
abbrev sCr : Stmt := top 56
abbrev nCr : List Str := ["stream", "game", "sums", "due", "handed", "was", "found"]
theorem scCr : FnScope nCr ["stream"] (defScope sCr) := ⟨rfl, rfl, rfl, by decide +kernel, rfl, by decide +kernel, by decide +kernel⟩
def spCr : Sp := fun vs H Q _ => ∃ (s : Addr) (n : Nat), vs = [.ref s] ∧ Strm H s n ∧ n + 10000 < LIM ∧ ∀ H', SameS s H H' → Strm H' s (n + 10000) → Q (.bl true) H'
/-- the law's own defs below it -/
structure Ld (K : PySem.W.Frag) (mg : Str → Option Value) where
  draw : Dn K mg "_law_draw" sDraw ["well", "many"]
  pick : Dn K mg "_law_pick" sPick ["well", "some"]
  mixed : Dn K mg "_law_mixed" sMixed ["well", "some"]
  same : Dn K mg "_law_same" sSame ["found", "due"]
  loose : Dn K mg "_law_loose" sLoose ["well", "thing"]
  late : Dn K mg "_law_spoiled" sLate ["thing"]
  os : Dn K mg "_law_o_sum" sOs ["stream", "names"]
  oss : Dn K mg "_law_o_sums" sOss ["stream", "names", "many"]
  oa : Dn K mg "_law_o_added" sOa ["names", "sums", "lot"]
  ol : Dn K mg "_law_o_lots" sOl ["many"]
  oh : Dn K mg "_law_o_holds" sOh ["one", "truths"]
  ni : Dn K mg "_law_o_neat_in" sNi ["names", "every"]
  gr : Dn K mg "_law_g_rows" sGr ["many"]
  gc : Dn K mg "_law_g_clause" sGc ["well", "marks", "most"]
  gg : Dn K mg "_law_g_game" sGg ["well", "most"]
  can : Dn K mg "_law_can" sCan ["game", "sums", "truths", "states"]
  ch : Dn K mg "_law_chain" sCh ["game", "sums"]
  du : Dn K mg "_law_due" sDu ["game", "sums"]
  dn : Dn K mg "_law_drawn" sDn ["stream", "game"]
  cr : Dn K mg "_law_case_right" sCr ["stream"]
theorem ok_cr (B : Bt mg) (B2 : Bt2 mg) (C : Cs mg) (V0 : Nv mg) (NG : Gm K mg) (NS : Sm K mg) (NV : Sv K mg) (RG : Er1 K mg "BadGame" "BadGame.__init__" (sErr 13) "game") (RS : Er1 K mg "BadSums" "BadSums.__init__" (sErr 11) "index") (D0 : Ld K mg) :
    FnG P w K mg base CX0 10 D0.cr.f D0.cr.fd ["stream"] spCr := by
  have GG : FnOk P w K mg base CX0 4 D0.gg.f D0.gg.fd ["well", "most"] spGg := ok_gg B D0.gg D0.gc D0.pick D0.mixed D0.draw
  have GN : FnOk P w K mg base CX0 5 D0.dn.f D0.dn.fd ["stream", "game"] spDn := ok_dn B D0.dn D0.oss D0.os D0.oa D0.pick D0.mixed D0.draw
  have GU : FnOk P w K mg base CX0 9 D0.du.f D0.du.fd ["game", "sums"] spDu := ok_du B B2 D0.du D0.ch D0.gr D0.can D0.oh D0.ol D0.ni
  have GL : FnOk P w K mg base CX0 7 D0.loose.f D0.loose.fd ["well", "thing"] (spLoose 5) := ok_loose B D0.loose D0.draw 5
  have GF : FnOk P w K mg base (L2.CX P w) 7 NV.sf.f NV.sf.fd ["game", "sums"] (spSfe RG.C RS.C) := ok_sfe B B2 C V0 NG NS NV RG RS
  have GS : FnOk P w K mg base CX0 8 D0.same.f D0.same.fd ["found", "due"] (spSame 7) := ok_same B D0.same 7
  have GA : FnOk P w K mg base CX0 7 D0.late.f D0.late.fd ["thing"] (spLate 6) := ok_late B D0.late 6
  have KB := kb_sfe NV.sf.F
  refine FnG.fn D0.cr.F scCr (fun vs H Q E h => ?_) (fun cdv A outer s H vs Q E hgd hr h => ?_)
  · obtain ⟨s, n, rfl, _⟩ := h
    rfl
  · obtain ⟨a, n, rfl, hs, hn, k⟩ := h
    have hu : (A.deeper (envOfC "_law_case_right" (defScope sCr) s.heap.objs.size D0.cr.f cdv)).units + 200 < cLine := by have := hr.un; omega
    have hg2 := deeper_guards (env := envOfC "_law_case_right" (defScope sCr) s.heap.objs.size D0.cr.f cdv) hgd
    refine ⟨_, pss_cons (ps_set (i := 1) scCr.nd rfl (Or.inl rfl) (pe_call GG (hr.mono (by decide)) (by rfl) D0.gg.g D0.gg.F.kp D0.gg.b .nil pass0 (pa_cons (pv 0) (pa_cons pe_int pa_nil))))
      (pss_cons (ps_set (i := 2) scCr.nd rfl (Or.inl rfl) (pe_call GN (hr.mono (by decide)) (by rfl) D0.dn.g D0.dn.F.kp D0.dn.b .nil pass0 (pa_cons (pv 0) (pa_cons (pv 1) pa_nil))))
      (pss_cons (ps_par (i := 3) (j := 4) (by rfl) scCr.nd rfl rfl (by decide) rfl rfl (pa_cons (pe_call GU hr (by rfl) D0.du.g D0.du.F.kp D0.du.b .nil pass0 (pa_cons (pv 1) (pa_cons (pv 2) pa_nil)))
          (pa_cons (pe_lst (pa_cons (pe_call GL (hr.mono (by decide)) (by rfl) D0.loose.g D0.loose.F.kp D0.loose.b .nil pass0 (pa_cons (pv 0) (pa_cons (pv 1) pa_nil))) (pa_cons (pe_call GL (hr.mono (by decide)) (by rfl) D0.loose.g D0.loose.F.kp D0.loose.b .nil pass0 (pa_cons (pv 0) (pa_cons (pv 2) pa_nil))) pa_nil))) pa_nil)) (by rfl))
      (pss_cons (ps_par (i := 5) (j := 6) (by rfl) scCr.nd rfl rfl (by decide) rfl rfl (pa_cons (pe_callB (call_reprD hg2 hu) (by rfl) B.repr PyProof.Rows.boot_repr (pa_cons (pv 4) pa_nil))
          (pa_cons (pe_lst (pa_cons (pe_call GF (hr.mono (by decide)) (by rfl) NV.sf.g NV.sf.F.kp NV.sf.b .nil passL (pa_cons (pe_ix ix_list (pv 4) pe_int (fun _ _ => rfl)) (pa_cons (pe_ix ix_list (pv 4) pe_int (fun _ _ => rfl)) pa_nil)))
            (pa_cons (pe_callKw GF (hr.mono (by decide)) (by rfl) NV.sf.g NV.sf.F.kp KB passL (pk_cons (pv 2) (pk_cons (pv 1) pk_nil))) pa_nil))) pa_nil)) (by rfl))
      (pss_cons (ps_if (PW.pt (pw_or (pt_not (pt_val (pe_call GS (hr.mono (by decide)) (by rfl) D0.same.g D0.same.F.kp D0.same.b .nil pass0 (pa_cons (pv 6) (pa_cons (pe_lst (pa_cons (pv 3) (pa_cons (pv 3) pa_nil))) pa_nil))) (fun _ => rfl)))
          (pw_or (pt_cmpR op_ne (pe_callB (call_reprD hg2 hu) (by rfl) B.repr PyProof.Rows.boot_repr (pa_cons (pv 4) pa_nil)) (pv 5) (nomark _))
          (pw_or1 (PW.pt (pw_and (pt_cmpR op_eq (pe_ix ix_tup (pv 3) pe_int (fun _ _ => rfl)) pe_str (nomark _))
            (pw_and1 (pt_cmp (pc_gt (pe_ix ix_tup (pv 3) pe_int (fun _ _ => rfl)) (pe_op op_add (pe_callB call_len_seq (by rfl) B.len boot_len (pa_cons (pe_ix ix_tup (pv 1) pe_int (fun _ _ => rfl)) pa_nil)) pe_int)) (by rfl))))))))) pss_never pss_nil)
      (pss_cons (ps_expr (pe_call GA (hr.mono (by decide)) (by rfl) D0.late.g D0.late.F.kp D0.late.b .nil pass0 (pa_cons (pv 6) pa_nil)))
      (pss_one (ps_ret (pe_call GS (hr.mono (by decide)) (by rfl) D0.same.g D0.same.F.kp D0.same.b .nil pass0 (pa_cons (pe_call GF (hr.mono (by decide)) (by rfl) NV.sf.g NV.sf.F.kp NV.sf.b .nil passL (pa_cons (pv 1) (pa_cons (pv 2) pa_nil))) (pa_cons (pv 3) pa_nil)))))))))), ?_⟩
    obtain ⟨u0, hu0⟩ := hs.lst
    have nHa : ¬ (H a = none) := fun z => by rw [hu0] at z; cases z
    refine ⟨_, rfl, a, n, rfl, hs, by omega, fun H1 vg g s1 hg gok hs1 => ?_⟩
    obtain ⟨u1, hu1⟩ := hs1.lst
    have nH1a : ¬ (H1 a = none) := fun z => by rw [hu1] at z; cases z
    refine ⟨_, rfl, _, rfl, (fun b => H b = none), a, n + 2000, g, vg, rfl, hs1, by omega, nHa, hg, gok, fun H2 vu sums s2 ru hsub ls hs2 => ?_⟩
    have hg2' := sameS_rep s2 hs1 nHa hg
    obtain ⟨o, ho⟩ := out_exists gok hsub
    obtain ⟨ok_g, sz_g, ni_g⟩ := gm_fine gok
    obtain ⟨ok_s, sz_s, ni_s⟩ := sums_fine gok hsub ls
    obtain ⟨ok_o, sz_o, xo, yo, eo, hxy⟩ := out_fine gok hsub ho
    refine ⟨_, rfl, _, rfl, du_one (E := E0) gok hsub ls ho hg2' ru fun H3 vd s3 rd => ?_⟩
    obtain ⟨u2, hu2⟩ := hs2.lst
    have hs3 := hs2.same s3
    obtain ⟨u3, hu3⟩ := hs3.lst
    have nH3a : ¬ (H3 a = none) := fun z => by rw [hu3] at z; cases z
    refine ⟨_, rfl, _, rfl, (fun b => H b = none), a, n + 4000, gmD g, vg, rfl, hs3, by omega, by omega, hg2'.same s3, nHa, ok_g, fun H4 v1 e1 s4 r1 l1 hs4 => ?_⟩
    obtain ⟨u4, hu4⟩ := hs4.lst
    have nH4a : ¬ (H4 a = none) := fun z => by rw [hu4] at z; cases z
    have ru4 := sameS_rep s4 hs3 nH1a (ru.same s3)
    refine ⟨_, rfl, _, rfl, (fun b => H1 b = none), a, n + 4000 + (gmD g).sz, .lst (sums.map sumD), vu, rfl, hs4, by omega, by omega, ru4, nH1a, D.ok_le ok_s (by decide), fun H5 v2 e2 s5 r2 l2 hs5 => ?_⟩
    refine ⟨by show 2 ≤ sizeLine; decide, fun lh hlh => ?_⟩
    have s6 : Same H5 (upd H5 lh (.lst [v1, v2])) := Same.new hlh
    have hh6 : upd H5 lh (.lst [v1, v2]) lh = some (.lst [v1, v2]) := upd_same
    generalize upd H5 lh (.lst [v1, v2]) = H6 at s6 hh6 ⊢
    refine ⟨_, _, rfl, ?_⟩
    have s56 := s4.trans (s5.trans (SameS.of s6))
    have r1' := (sameS_rep s5 hs4 nH3a r1).same s6
    have r2' := r2.same s6
    have ok1 := Loose.ok l1 ok_g
    have ok2 := Loose.ok l2 ok_s
    have z1 := Loose.sz l1
    have z2 := Loose.sz l2
    have okH : (D.lst [e1, e2]).ok 5 := ⟨ok1, D.ok_le ok2 (by decide), trivial⟩
    have nH : (D.lst [e1, e2]).nice := ⟨Loose.nice l1 ni_g, Loose.nice l2 ni_s, trivial⟩
    have shown := nice_repr nH okH (by decide) (show e1.sz + (e2.sz + 0) + 1 ≤ 23000 by omega)
    have rH : ∀ {Hx : Hp}, Same H6 Hx → Rep (fun _ => True) Hx (.lst [e1, e2]) (.ref lh) := fun {Hx} sx => ⟨lh, _, rfl, trivial, sx _ _ hh6, v1, _, rfl, rep_any (r1'.same sx), v2, _, rfl, rep_any (r2'.same sx), rfl⟩
    refine ⟨_, rfl, lh, (D.lst [e1, e2]).py, rfl, (rH (Same.refl H6)).dp okH, shown.1, shown.2.1, shown.2.2.1, shown.2.2.2, ?_⟩
    refine ⟨_, rfl, lh, _, 0, v1, rfl, rfl, SqL.of hh6, atI_nat (j := 0) rfl, ?_⟩
    refine ⟨_, rfl, lh, _, 1, v2, rfl, rfl, SqL.of hh6, atI_nat (j := 1) rfl, ?_⟩
    have hg6 := (sameS_rep (s4.trans s5) hs3 nHa (hg2'.same s3)).same s6
    have ru6 := (sameS_rep s5 hs4 nH1a ru4).same s6
    refine sfe_one (E := E0) gok hsub ls ho l1 l2 r1' r2' fun H7 w1 s7 q1 => ?_
    refine ⟨_, rfl, _, rfl, ?_⟩
    refine sfe_one (E := E0) gok hsub ls ho (Loose.refl _) (Loose.refl _) (hg6.same s7) (ru6.same s7) fun H8 w2 s8 q2 => ?_
    refine ⟨by show 2 ≤ sizeLine; decide, fun lf hlf => ?_⟩
    have s9 : Same H8 (upd H8 lf (.lst [w1, w2])) := Same.new hlf
    have hf9 : upd H8 lf (.lst [w1, w2]) lf = some (.lst [w1, w2]) := upd_same
    generalize upd H8 lf (.lst [w1, w2]) = H9 at s9 hf9 ⊢
    refine ⟨_, _, rfl, ?_⟩
    have s69 := s7.trans (s8.trans s9)
    have fF : Rep (fun b => H6 b = none) H9 (.lst [o, o]) (.ref lf) := ⟨lf, _, rfl, (s7.trans s8).free hlf, hf9, w1, _, rfl, q1.same (s8.trans s9), w2, _, rfl, Rep.mono (fun b z => s7.free z) (stay_of s9) q2, rfl⟩
    have rdo : Rep (fun b => True ∧ b ≠ a) H3 o vd := by
      obtain ⟨c, m, q, hst, _⟩ := hs3
      exact Rep.off hst rd (out_noL ho)
    have rd6 := (sameS_rep (s4.trans s5) hs3 (fun z => z.2 rfl) rdo).same s6
    have okoo : (D.lst [o, o]).ok 5 := ⟨ok_o, ok_o, trivial⟩
    have szoo : (D.lst [o, o]).sz ≤ 101 := show o.sz + (o.sz + 0) + 1 ≤ 101 by omega
    refine ⟨_, rfl, _, rfl, _, rfl, by show 2 ≤ sizeLine; decide, fun l2' hl2' => ?_⟩
    have s10 : Same H9 (upd H9 l2' (.lst [vd, vd])) := Same.new hl2'
    have hl10 : upd H9 l2' (.lst [vd, vd]) l2' = some (.lst [vd, vd]) := upd_same
    generalize upd H9 l2' (.lst [vd, vd]) = H10 at s10 hl10 ⊢
    have rd10 := rep_any (rd6.same (s69.trans s10))
    refine ⟨_, _, .lst [o, o], .ref lf, .ref l2', rfl, fF.same s10, (⟨l2', _, rfl, trivial, hl10, vd, _, rfl, rd10, vd, _, rfl, rd10, rfl⟩ : Rep (fun _ => True) H10 (.lst [o, o]) (.ref l2')), okd_of (D.ok_le okoo (by decide)), by omega, fun H11 s11 => ⟨_, rfl, ?_⟩⟩
    refine iteF ?_
    have s611 := s69.trans (s10.trans s11)
    refine ⟨_, rfl, lh, (D.lst [e1, e2]).py, rfl, (rH s611).dp okH, shown.1, shown.2.1, shown.2.2.1, shown.2.2.2, ?_⟩
    refine ⟨_, rfl, ?_⟩
    refine ⟨rfl, _, rfl, ?_⟩
    refine ite2 (fun h => absurd h (by simp)) (fun _ => ?_)
    have rd11 := rd6.same s611
    have rdt : Rep (fun b => True ∧ b ≠ a) H11 (.tup [.str xo, yo]) vd := eo ▸ rd11
    obtain ⟨ad, ud, rfl, had, va, _, rfl, ra, vb, _, rfl, rb, rfl⟩ := rdt
    cases (show va = .str xo from ra)
    refine ⟨_, rfl, ad, _, 0, .str xo, rfl, rfl, SqT.of had, atI_nat (j := 0) rfl, ?_⟩
    refine ⟨rfl, _, rfl, ?_⟩
    have hg11 := hg6.same s611
    obtain ⟨ga, ug, rfl, hga, vk, _, rfl, rk, _⟩ := id hg11
    obtain ⟨lk, uk, rfl, _, hlk, ruk⟩ := rk
    have luk := ruk.length
    rw [List.length_map] at luk
    rcases hxy with rfl | ⟨rfl, r, rfl, hr1⟩
    · refine iteF ?_
      refine iteF ?_
      refine ⟨_, rfl, (fun b => H6 b = none), .lst [o, o], .ref lf, 1000, rfl, fF.same (s10.trans s11), D.ok_le okoo (by decide), D.le_sz (by omega), (by have := D.nl_sz (D.lst [o, o]); omega), fun H12 l12 => ?_⟩
      have s612 : Same H6 H12 := late_same s611 l12
      refine ⟨_, rfl, _, rfl, ?_⟩
      refine sfe_one (E := E0) gok hsub ls ho (Loose.refl _) (Loose.refl _) (hg6.same s612) (ru6.same s612) fun H13 w3 s13 q3 => ?_
      have s613 := s612.trans s13
      refine ⟨_, rfl, _, _, o, w3, _, rfl, q3, rd6.same s613, okd_of (D.ok_le ok_o (by decide)), by omega, fun H14 s14 => ?_⟩
      have s614 := s613.trans s14
      exact k H14 (s1.trans (s2.trans ((SameS.of s3).trans (s56.trans (SameS.of s614))))) (((hs5.same s6).same s614).mono (by omega))
    · refine iteT ?_
      cases (show vb = .int (r : Nat) from rb)
      refine ⟨_, rfl, ad, _, 1, .int (r : Nat), rfl, rfl, SqT.of had, atI_nat (j := 1) rfl, ?_⟩
      refine ⟨_, rfl, ga, _, 0, .ref lk, rfl, rfl, SqT.of hga, atI_nat (j := 0) rfl, ?_⟩
      refine ⟨lk, _, rfl, .inl (SqL.of hlk), ?_⟩
      refine ⟨_, _, rfl, rfl, ?_⟩
      refine ⟨_, _, rfl, rfl, ?_⟩
      refine ⟨_, rfl, ?_⟩
      refine ite2 (fun h => ?_) (fun _ => ?_)
      · have h : decide ((uk.length : Int) + 1 < (r : Int)) = true := h
        have := of_decide_eq_true h
        omega
      refine ⟨_, rfl, (fun b => H6 b = none), .lst [o, o], .ref lf, 1000, rfl, fF.same (s10.trans s11), D.ok_le okoo (by decide), D.le_sz (by omega), (by have := D.nl_sz (D.lst [o, o]); omega), fun H12 l12 => ?_⟩
      have s612 : Same H6 H12 := late_same s611 l12
      refine ⟨_, rfl, _, rfl, ?_⟩
      refine sfe_one (E := E0) gok hsub ls ho (Loose.refl _) (Loose.refl _) (hg6.same s612) (ru6.same s612) fun H13 w3 s13 q3 => ?_
      have s613 := s612.trans s13
      refine ⟨_, rfl, _, _, o, w3, _, rfl, q3, rd6.same s613, okd_of (D.ok_le ok_o (by decide)), by omega, fun H14 s14 => ?_⟩
      have s614 := s613.trans s14
      exact k H14 (s1.trans (s2.trans ((SameS.of s3).trans (s56.trans (SameS.of s614))))) (((hs5.same s6).same s614).mono (by omega))
end
end Q1
set_option Elab.async false
set_option linter.all false
set_option maxRecDepth 100000
set_option maxHeartbeats 4000000
namespace Q1
open PySem PySem.Spec L2 LamX PyProof.Rows
theorem takes_len {X : Cx} {W : WX} (tk : Takes X W) : Takes X (fun cls d σ H => σ.length = X.N.length → W cls d σ H) := fun e s xx => tk e s (by
  obtain ⟨a, B, sI, p', σ', H', cls, d, rfl, J, nb, up, sky, na, os, ag, w⟩ := xx
  exact ⟨a, B, sI, p', σ', H', cls, d, rfl, J, nb, up, sky, na, os, ag, w J.len⟩)
/-- what a clause of _law_met tells -/
def MetR (wd fl : Str) (C : Addr) (cls : Value) (d : Option Addr) (H : Hp) (Q : VK) : Prop := cls = .ref C ∧ ∃ (dd : Addr) (y : V), d = some dd ∧ H dd = some (.xd [(fl, y)]) ∧ ∀ p, H p = none → Q (.ref p) (upd H p (.tup [.str wd, y]))
def metE (K : PySem.W.Frag) (C5 C6 : Addr) (Q : VK) : XK := fun cls d H => ∃ b, PySem.W.exmOne K cls (.ref C5) = some b ∧ (b = true → MetR "game" "game" C5 cls d H Q) ∧ (b = false → ∃ b, PySem.W.exmOne K cls (.ref C6) = some b ∧ (b = true → MetR "sums" "index" C6 cls d H Q) ∧ (b = false → False))
def TTmet (K : PySem.W.Frag) (C5 C6 : Addr) : (XK → Hp → VK → Prop) → Hp → VK → Prop := fun tl H Q =>
  tl (metE K C5 C6 Q) H (fun v H1 => [V.str "told", v].length ≤ sizeLine ∧ ∀ p, H1 p = none → Q (.ref p) (upd H1 p (.tup [.str "told", v])))
abbrev sMet : Stmt := top 51
abbrev nMet : List Str := ["ask", "e"]
theorem scMet : FnScope nMet ["ask"] (defScope sMet) := ⟨rfl, rfl, rfl, by decide +kernel, rfl, by decide +kernel, by decide +kernel⟩
/-- how an error's field is read, which clause takes which -/
structure Xe (K : PySem.W.Frag) {mg : Str → Option Value} (Y5 : Er1 K mg "BadGame" "BadGame.__init__" (sErr 13) "game") (Y6 : Er1 K mg "BadSums" "BadSums.__init__" (sErr 11) "index") : Prop where
  x5 : XfC K Y5.C
  x6 : XfC K Y6.C
  m55 : PySem.W.exmOne K (.ref Y5.C) (.ref Y5.C) = some true
  m65 : PySem.W.exmOne K (.ref Y6.C) (.ref Y5.C) = some false
  m66 : PySem.W.exmOne K (.ref Y6.C) (.ref Y6.C) = some true
section
variable {K : PySem.W.Frag} {mg : Str → Option Value} {Y5 : Er1 K mg "BadGame" "BadGame.__init__" (sErr 13) "game"} {Y6 : Er1 K mg "BadSums" "BadSums.__init__" (sErr 11) "index"} {H : Hp} {d : Addr} {y : V} {Q : VK}
theorem met5 (Z : Xe K Y5 Y6) (hd : H d = some (.xd [("game", y)])) (k : ∀ p, H p = none → Q (.ref p) (upd H p (.tup [.str "game", y]))) : metE K Y5.C Y6.C Q (.ref Y5.C) (some d) H :=
  ⟨true, Z.m55, fun _ => ⟨rfl, d, y, rfl, hd, k⟩, fun h => nomatch h⟩
theorem met6 (Z : Xe K Y5 Y6) (hd : H d = some (.xd [("index", y)])) (k : ∀ p, H p = none → Q (.ref p) (upd H p (.tup [.str "sums", y]))) : metE K Y5.C Y6.C Q (.ref Y6.C) (some d) H := by
  refine ⟨false, Z.m65, ?_, fun _ => ⟨true, Z.m66, fun _ => ⟨rfl, d, y, rfl, hd, k⟩, ?_⟩⟩
  · intro h; cases h
  · intro h; cases h
end
theorem set_one {σ : L2.St} {x : Option V} (h : σ.length = 2) : (σ.set 1 x)[1]? = some x := by
  rw [List.getElem?_set_self (by omega)]
theorem met_gives {X : Cx} {g : Addr} {cdg : Value} {q : Str} {K : PySem.W.Frag} {mg : Str → Option Value} (hK : X.K = K) (hmg : X.mg = mg) (Y5 : Er1 K mg "BadGame" "BadGame.__init__" (sErr 13) "game") (Y6 : Er1 K mg "BadSums" "BadSums.__init__" (sErr 11) "index") (Z : Xe K Y5 Y6) : GivesTo X nMet "_law_met" (defScope sMet) g cdg (defBody sMet) "ask" q (TTmet K Y5.C Y6.C) := by
  subst hK hmg
  intro f c' s H Q tl act hc h
  refine ⟨_, pss_one (ps_tryAs (n := "e") (i := 1) (l := [(.ref Y5.C, fun a cls d => tRet (tTup (tCons (tC (.str "game")) (tCons (tXf a cls d Y5.C "game" (tVar 1)) tNil)))), (.ref Y6.C, fun a cls d => tRet (tTup (tCons (tC (.str "sums")) (tCons (tXf a cls d Y6.C "index" (tVar 1)) tNil))))])
      (tb := fun W D σ H => ∃ Ech : XK, (∀ cls d σ' H', Ech cls d H' → σ'.length = 2 → W cls d σ' H') ∧ σ[0]? = some (some (.ref f)) ∧ H c' = some (CodeO c' q) ∧ tl Ech H (fun v H1 => [V.str "told", v].length ≤ sizeLine ∧ ∀ p, H1 p = none → D.rt (.ref p) (upd H1 p (.tup [.str "told", v]))))
      rfl rfl scMet.nd rfl rfl LamX.takes0 (fun W pn xe tk _ => ?_)
      (.one ⟨rfl, by decide, .inl Y5.g⟩ (fun a oe cls d pn hz hf => pss_one (ps_ret (pe_tup (pa_cons pe_str (pa_cons (pe_xf Z.x5 Y5.no hz hf (pv 1)) pa_nil)))))
      (.one ⟨rfl, by decide, .inl Y6.g⟩ (fun a oe cls d pn hz hf => pss_one (ps_ret (pe_tup (pa_cons pe_str (pa_cons (pe_xf Z.x6 Y6.no hz hf (pv 1)) pa_nil))))) .no))), ?_⟩
  · refine ⟨fun pins s' σ H' D I h' => ?_⟩
    obtain ⟨Ech, hW, h1, h2, h3⟩ := h'
    exact (pss_one (ps_ret (pe_tup (pa_cons pe_str (pa_cons (act _ pn xe Ech _ _ (takes_len tk) (fun cls d σ' H' e hl => hW cls d σ' H' e hl)) pa_nil))))).run pins s' σ H' D I ⟨h1, h2, h3⟩
  · have tell : ∀ {wd fl : Str} {C : Addr} {cls : Value} {d : Option Addr} {H' : Hp} {σ' : L2.St}, MetR wd fl C cls d H' Q → σ'.length = 2 → ∀ a, H' a = none → tRet (tTup (tCons (tC (.str wd)) (tCons (tXf a cls d C fl (tVar 1)) tNil))) (endsOff { nx := fun _ H' => Q .non H', rt := Q } 1) (σ'.set 1 (some (.ref a))) H' := fun {wd fl C cls d H' σ'} m hl a ha => by
      obtain ⟨ec, dd, y, ed, hd, k⟩ := m
      exact ⟨_, set_one hl, rfl, ec, dd, _, _, ed, hd, by simp [List.lookup], by show 2 ≤ sizeLine; decide, fun p hp => k p hp⟩
    refine ⟨metE X.K Y5.C Y6.C Q, fun cls d σ' H' m hl => ?_, rfl, hc, h⟩
    obtain ⟨b, e1, y1, n1⟩ := m
    refine ⟨b, e1, fun hb a ha => tell (y1 hb) hl a ha, fun hb => ?_⟩
    obtain ⟨b2, e2, y2, n2⟩ := n1 hb
    exact ⟨b2, e2, fun hb a ha => tell (y2 hb) hl a ha, fun hb => (n2 hb).elim⟩
end Q1
set_option Elab.async false
set_option linter.all false
set_option maxRecDepth 100000
set_option maxHeartbeats 4000000
namespace Q1
open PySem PySem.Spec L2 LamX PyProof.Rows
/-- a def of the top that makes lambdas: its code object is known -/
structure FunC (K : PySem.W.Frag) (x qual : Str) (st : Stmt) (f : Addr) (fd : FuncData) (c : Addr) : Prop where
  ex : ∃ (oc : Value) (od : Option Addr) (kV doc pm : Value) (an : Option Addr) (ct : Value) (osl : Array (Option Value)),
    fd = PySem.W.fnOf x qual (defArgs st) (defBody st) (defScope st) .none kV doc pm an (.ref c) ct ∧ K.lookup f = some ⟨oc, od, .func fd, osl⟩ ∧ PySem.W.codeIn K (.ref c) qual = true
  kp : PySem.W.keepIn K (.ref f) = true
theorem FunC.toFun {K : PySem.W.Frag} {x qual : Str} {st : Stmt} {f : Addr} {fd : FuncData} {c : Addr} (F : FunC K x qual st f fd c) : Fun K x qual st f fd := by
  obtain ⟨oc, od, kV, doc, pm, an, ct, osl, h⟩ := F.ex
  exact ⟨⟨oc, od, kV, doc, pm, an, .ref c, ct, osl, h⟩, F.kp⟩
theorem FunC.ok {P : Program} {w : World} {K : PySem.W.Frag} {mg : Str → Option Value} {base : Heap} {x qual : Str} {st : Stmt} {f : Addr} {fd : FuncData} {c : Addr} {N ps : List Str} {k : Nat} {sp : Sp} (F : FunC K x qual st f fd c) (S : FnScope N ps (defScope st)) (len : ∀ vs H Q E, sp vs H Q E → vs.length = ps.length)
    (hbody : ∀ (A : Around) (outer : List Env) (s : Shared) (H : Hp) (vs : List V) (Q : VK) (E : XK), Room k (A.deeper (PyProof.Rows.envOfC qual (defScope st) s.heap.objs.size f (.ref c))) → sp vs H Q E →
      ∃ t, PSs (cxOf CX0 P w K mg base N qual (defScope st) f (.ref c) A outer s H E).nox (defBody st) t ∧ t { nx := fun _ H' => Q .non H', rt := Q } (L2.start N vs) H) : FnOk P w K mg base CX0 (k + 1) f fd ps sp := by
  obtain ⟨oc, od, kV, doc, pm, an, ct, osl, rfl, lk, hcd⟩ := F.ex
  refine fn_of lk hcd S len fun A outer s H vs Q E hr hsp => ?_
  obtain ⟨t, h, q⟩ := hbody A outer s H vs Q E hr hsp
  exact ⟨t, h.nox, q⟩
structure DnC (K : PySem.W.Frag) (mg : Str → Option Value) (x : Str) (st : Stmt) (ps : List Str) where
  f : Addr
  fd : FuncData
  c : Addr
  t : Addr
  F : FunC K x x st f fd c
  b : Binds K fd ps []
  g : mg x = some (.ref f)
structure TrC (base : Heap) (T : List (Addr × Str)) (q : Str) {K : PySem.W.Frag} {mg : Str → Option Value} {x : Str} {st : Stmt} {ps : List Str} (N : DnC K mg x st ps) : Prop where
  TB : TabB base mg N.c N.t
  hm : (N.t, q) ∈ T
  hu : ∀ p ∈ T, p.1 = N.t → p.2 = q
theorem extN_upd {H0 Hm H9 : Hp} {f : Addr} {o : HO} (e1 : ExtN H0 Hm) (n : Hm f = none) (e2 : ExtN Hm H9) : ExtN H0 (upd H9 f o) := fun b u hb nt => by
  have z := e1 b u hb nt
  have nb : b ≠ f := fun q => by rw [q, n] at z; cases z
  rw [upd_ne nb]
  exact e2 b u z nt
theorem stayN {S : Addr → Prop} {H H' : Hp} (h : ExtN H H') : Stay S H H' := fun a o e n => h a o e (fun ps z => by
  subst z
  rcases n with ⟨_, q, _⟩ | ⟨_, q⟩ | q <;> cases q)
theorem Rep.extN {S : Addr → Prop} {H H' : Hp} {d : D} {v : V} (h : Rep S H d v) (e : ExtN H H') : Rep S H' d v := Rep.mono (fun _ s => s) (stayN e) h
theorem Reps.extN {S : Addr → Prop} {H H' : Hp} {d : List D} {v : List V} (h : Reps S H d v) (e : ExtN H H') : Reps S H' d v := Reps.mono (fun _ s => s) (stayN e) h
/-! ### a lambda within a comprehension -/
theorem lookup_relabel_cell {env : Env} : ∀ {names : List (Str × NameKind)} {x : Str}, names.lookup x = some .cell →
    (names.map fun (n, k) => if (k == NameKind.free && env.scope.kind == .function && env.kindOf n == some .cell) then (n, NameKind.cell) else (n, k)).lookup x = some .cell
  | [], _, h => by simp at h
  | (n, k) :: r, x, h => by
    have ih := @lookup_relabel_cell env r x
    show List.lookup x ((if (k == NameKind.free && env.scope.kind == .function && env.kindOf n == some .cell) = true then (n, NameKind.cell) else (n, k)) :: _) = _
    cases hx : x == n with
    | true =>
      simp only [List.lookup_cons, hx] at h
      cases h
      simp [List.lookup_cons, hx]
    | false =>
      simp only [List.lookup_cons, hx] at h
      by_cases hc : (k == NameKind.free && env.scope.kind == .function && env.kindOf n == some .cell) = true
      · rw [if_pos hc]; simp only [List.lookup_cons, hx]; exact ih h
      · rw [if_neg hc]; simp only [List.lookup_cons, hx]; exact ih h
def lamCB (sc scope : Scope) : Bool :=
  decide (scope.kind = .function) && !scope.isCoroutine && !scope.isGenerator && scope.names.all fun y => !decide (y.2 = .local) && !decide (y.2 = .cell) && (!decide (y.2 = .free) || decide (sc.names.lookup y.1 = some .cell))
theorem lamS_blk {sc scope : Scope} {env : Env} (h : lamCB sc scope = true) : LamS (relabel sc env) scope := by
  unfold lamCB at h
  simp only [Bool.and_eq_true, Bool.or_eq_true, Bool.not_eq_true', decide_eq_true_eq, decide_eq_false_iff_not, List.all_eq_true] at h
  obtain ⟨⟨⟨h1, h2⟩, h3⟩, h4⟩ := h
  refine ⟨h1, h2, h3, fun y hy => (h4 y hy).1, fun y hy e => ?_⟩
  rcases (h4 y hy).2 with z | z
  · exact absurd e z
  · exact .inl (lookup_relabel_cell z)
section
variable {S : Addr → Prop} {te tf : TE} {ta : TA} {σ : L2.St} {H : Hp} {d : D} {ds es : List D} {K : PySem.W.Frag}
theorem mk_catT (h : MkE S te σ H (.tup ds)) (k : MkE S tf σ H (.tup es)) (hd : ds ≠ []) (he : es ≠ []) (hl : ds.length + es.length ≤ 1000) : MkE S (tOp (rCatT K) te tf) σ H (.tup (ds ++ es)) := fun H1 _ s q => h H1 _ s fun H2 v s2 r => k H2 _ (s.trans s2) fun H3 u s3 r2 => by
  obtain ⟨a, vs, rfl, ha, ra⟩ := r.same s3
  obtain ⟨b, us, rfl, hb, rb⟩ := r2
  have l1 := ra.length
  have l2 := rb.length
  have nn : ∀ {α : Type} {l : List α}, l ≠ [] → 0 < l.length := fun h => List.length_pos_iff.mpr h
  have p1 := nn hd
  have p2 := nn he
  exact ⟨a, b, vs, us, rfl, rfl, SqT.of ha, SqT.of hb, fun z => by rw [z] at l1; simp at l1; omega, by rw [l1, l2]; exact Nat.le_trans hl (by decide), fun z => absurd (show us.length = 0 by rw [z]; rfl) (by omega), fun _ p hp => q _ (.ref p) ((s2.trans s3).trans (Same.new hp)) ⟨p, _, rfl, upd_same, Reps.append (ra.same (Same.new hp)) (rb.same (Same.new hp))⟩⟩
theorem mk_toT {k : Nat} (h : MkE S te σ H (.tup ds)) (hk : MkE S tf σ H (.int (k : Nat))) (hl : k < ds.length) : MkE S (tSl (rSlT K) te tNoPart (tPart tf)) σ H (.tup (ds.take k)) := fun H1 _ s q => h H1 _ s fun H2 v s2 r => hk H2 _ (s.trans s2) fun H3 u s3 r2 => by
  obtain ⟨a, vs, rfl, ha, ra⟩ := r.same s3
  cases (show u = .int (k : Nat) from r2)
  have l1 := ra.length
  refine ⟨(k : Nat), rfl, a, vs, rfl, SqT.of ha, fun z => ?_, fun p hp => ?_⟩
  · have := z.2
    rw [HT.sIx_nat] at this
    omega
  · rw [cutV_take]
    exact q _ (.ref p) ((s2.trans s3).trans (Same.new hp)) ⟨p, _, rfl, upd_same, (ra.take k).same (Same.new hp)⟩
theorem run_forT {g : TG} {tb : TS} {De : Ends} (h : MkE S te σ H d) (k : ∀ H2 v, Same H H2 → Rep S H2 d v → tFor (iTup K (tC v)) g tb De σ H2) : tFor (iTup K te) g tb De σ H := h H _ (Same.refl _) k
theorem run_appendS {i : Nat} {De : Ends} {t2 : TS} {l : Addr} {vs : List V} (hσ : σ[i]? = some (some (.ref l))) (hl : H l = some (.lst vs)) (mk : MkE S te σ H d) (hn : vs.length ≤ 1000) (k : ∀ H2 u, Same H H2 → Rep S H2 d u → t2 De σ (upd H2 l (.lst (vs ++ [u])))) :
    tSeq (tDrop (tBM K "list" rAppend (tVar i) (tCons te tNil))) t2 De σ H := ⟨_, hσ, .inl ⟨rfl, _, SqL.of hl⟩, mk H _ (Same.refl _) fun H2 v s r => ⟨l, vs, v, rfl, rfl, s _ _ hl, Nat.lt_of_le_of_lt hn (by decide), k H2 v s r⟩⟩
end
/-! ### what is refused -/
def rfK : D := .lst [.tup [.str "k", .bl false]]
def rfT : D := .lst [.tup [.str "u", .str "they"], .tup [.str "y", .str "we"]]
def rfN : D := .lst [.str "y"]
def rfG : D := .tup [rfK, rfT, rfN, .lst []]
def rfA : List D := [.non, .int 5, .str "ab", .lst [], .dic, .bl true, .tup [rfK, rfT, rfN], .tup [rfK, rfT, rfN, .lst [], .lst []], .tup [.lst [.tup [.str "k", .int 0]], rfT, .lst [.str "y"], .lst []]]
def rfB : List D := [.tup [rfK, .lst [], .lst [.str "k"], .lst []], .tup [rfK, rfT, .lst [], .lst []], .tup [rfK, rfT, .lst [.str "z"], .lst []]]
def rfC : List D := [.tup [rfK, .lst [.tup [.str "u", .tup [.int 1, .int 2]]], .lst [.str "u"], .lst []], .tup [rfK, .lst [.tup [.str "k", .str "we"]], .lst [.str "k"], .lst []]]
def rfD : D := .tup [rfK, rfT, .lst [.str "y"], .lst [.int 5]]
def rfL : List D := (rfA ++ rfB ++ rfC) ++ [rfD]
def rfR : D := .tup [.lst [.str "k", .str "y"], .bl true]
def rfS1 : List (D × Nat) := [(.non, 0), (.str "ab", 0), (.dic, 0), (.lst [rfR, .tup [.lst [.str "y", .str "k"], .bl true]], 1), (.lst [.tup [.lst [.str "b"], .bl true]], 0)]
def rfS2 : List (D × Nat) := [(.lst [rfR, rfR, .int 5], 2), (.lst [.tup [.lst [.str "y", .str "u"], .bl false]], 0), (.lst [.tup [.lst [.str "k"], .int 0]], 0), (.lst [rfR, .tup [.lst [.str "k"]]], 1)]
def pD (q : D × Nat) : D := .tup [q.1, .int (q.2 : Nat)]
def shortb : D → Bool
  | .str s => decide (s.length ≤ 100)
  | _ => true
theorem shortb_short {d : D} (h : shortb d = true) : d.short := by
  cases d with
  | str s =>
    have h : decide (s.length ≤ 100) = true := h
    exact Nat.le_trans (of_decide_eq_true h) (by decide)
  | _ => trivial
def onAll (p : List D → Bool) (d : D) : Bool := match d.items? with
  | some ds => p ds
  | none => true
theorem onAll_of {p : List D → Bool} {d : D} (h : onAll p d = true) : ∀ ds, d.items? = some ds → p ds = true := fun ds e => by
  unfold onAll at h
  rw [e] at h
  exact h
def smallb (d : D) : Bool := onAll (fun ds => decide (ds.length ≤ 1000)) d
theorem smallb_small {d : D} (h : smallb d = true) : d.small := by
  unfold D.small
  cases e : d.items? with
  | none => trivial
  | some ds => exact of_decide_eq_true (onAll_of h ds e)
def pairsInb (d : D) : Bool := onAll (fun ds => decide (ds.length ≤ 400) && ds.all (onAll fun xs => xs.all shortb)) d
theorem pairsInb_ok {d : D} (h : pairsInb d = true) : ∀ ds, d.items? = some ds → ds.length ≤ 400 ∧ shortL ds := fun ds e => by
  have := Bool.and_eq_true_iff.mp (onAll_of h ds e)
  exact ⟨of_decide_eq_true this.1, fun x hx xs hxs y hy => shortb_short (List.all_eq_true.mp (onAll_of (List.all_eq_true.mp this.2 x hx) xs hxs) y hy)⟩
def gameInb (d : D) : Bool := match d.items? with
  | some [k, t, n, r] => (smallb k && smallb t) && ((smallb n && smallb r) && ((pairsInb k && pairsInb t) && onAll (fun ds => ds.all smallb) r))
  | _ => true
theorem gameInb_ok {d : D} (h : gameInb d = true) : GameIn d := ⟨fun k t n r e => by
  unfold gameInb at h
  rw [e] at h
  simp only [Bool.and_eq_true] at h
  obtain ⟨⟨h1, h2⟩, ⟨h3, h4⟩, ⟨h5, h6⟩, h7⟩ := h
  exact ⟨smallb_small h1, smallb_small h2, smallb_small h3, smallb_small h4, pairsInb_ok h5, pairsInb_ok h6, fun ds hds x hx => smallb_small (List.all_eq_true.mp (onAll_of h7 ds hds) x hx)⟩⟩
def sumInb (d : D) : Bool := match d.items? with
  | some [l, _] => onAll (fun ds => decide (ds.length ≤ 400) && ds.all shortb) l
  | _ => true
theorem sumInb_ok {d : D} (h : sumInb d = true) : SumIn d := fun l b e ds hds => by
  unfold sumInb at h
  rw [e] at h
  have := Bool.and_eq_true_iff.mp (onAll_of h ds hds)
  exact ⟨of_decide_eq_true this.1, fun x hx => shortb_short (List.all_eq_true.mp this.2 x hx)⟩
mutual
def D.okdb : Nat → D → Bool
  | _, .str x => PyData.strOk x
  | 0, .lst _ => false
  | 0, .tup _ => false
  | n + 1, .lst xs => okdsb n xs
  | n + 1, .tup xs => okdsb n xs
  | _ + 2, .dic => true
  | 1, .dic => false
  | 0, .dic => false
  | _, .non => true
  | _, .bl _ => true
  | _, .int _ => true
def okdsb : Nat → List D → Bool
  | _, [] => true
  | n, x :: xs => x.okdb n && okdsb n xs
end
mutual
theorem okdb_ok : ∀ {n : Nat} {d : D}, d.okdb n = true → d.okd n
  | n, .str x, h => by unfold D.okdb at h; unfold D.okd; exact h
  | 0, .lst _, h => by unfold D.okdb at h; cases h
  | 0, .tup _, h => by unfold D.okdb at h; cases h
  | n + 1, .lst xs, h => by unfold D.okdb at h; exact okdsb_ok h
  | n + 1, .tup xs, h => by unfold D.okdb at h; exact okdsb_ok h
  | _ + 2, .dic, _ => trivial
  | 1, .dic, h => by unfold D.okdb at h; cases h
  | 0, .dic, h => by unfold D.okdb at h; cases h
  | n, .non, _ => by cases n <;> simp only [D.okd]
  | n, .bl _, _ => by cases n <;> simp only [D.okd]
  | n, .int _, _ => by cases n <;> simp only [D.okd]
theorem okdsb_ok : ∀ {n : Nat} {ds : List D}, okdsb n ds = true → okds n ds
  | _, [], _ => trivial
  | n, d :: ds, h => by
    unfold okdsb at h
    rw [Bool.and_eq_true] at h
    exact ⟨okdb_ok h.1, okdsb_ok h.2⟩
end
def gmP (d : D) : D := .tup [.str "game", d]
theorem rfL_bad : ∀ d ∈ rfL, gameB d = false ∧ gameInb d = true := by decide +kernel
theorem rfG_good : gameB rfG = true ∧ gameInb rfG = true ∧ (nmsG rfG).length ≤ 90 := by decide +kernel
theorem rfS_bad : ∀ q ∈ rfS1 ++ rfS2, firstSum (nmsG rfG) q.1 = some q.2 ∧ smallb q.1 = true ∧ onAll (fun ds => ds.all sumInb) q.1 = true := by decide +kernel
theorem rfL_same : (D.lst (rfL.map gmP)).okdb 6 = true ∧ (D.lst (rfL.map gmP)).sz ≤ 1000 := by decide +kernel
end Q1
set_option Elab.async false
set_option linter.all false
set_option maxRecDepth 100000
set_option maxHeartbeats 4000000
namespace Q1
open PySem PySem.Spec L2 LamX PyProof.Rows
section
variable {P : Program} {w : World} {K : PySem.W.Frag} {mg : Str → Option Value} {base : Heap}
/-! ### _law_refused_right -/
abbrev sRef : Stmt := top 57
abbrev nRef : List Str := ["game", "odds", "right", "odd", "index"]
theorem scRef : FnScope nRef [] (defScope sRef) := ⟨rfl, rfl, rfl, by decide +kernel, rfl, by decide +kernel, by decide +kernel⟩
def spRef (T : List (Addr × Str)) : Sp := fun vs H Q _ => vs = [] ∧ Tabs T H ∧ ∀ H', ExtN H H' → Tabs T H' → Q (.bl true) H'
theorem ok_ref {T : List (Addr × Str)} (B : Bt mg) (B2 : Bt2 mg) (C : Cs mg) (V0 : Nv mg) (NG : Gm K mg) (NS : Sm K mg) (NV : Sv K mg) (RG : Er1 K mg "BadGame" "BadGame.__init__" (sErr 13) "game") (RS : Er1 K mg "BadSums" "BadSums.__init__" (sErr 11) "index") (Xf : Xe K RG RS) (D0 : Ld K mg)
    (NR : DnC K mg "_law_refused_right" sRef []) (TO : TrC base T "_law_refused_right.<locals>.<lambda>" NR) (NT : Dn K mg "_law_met" sMet ["ask"]) :
    FnOk P w K mg base CX0 10 NR.f NR.fd [] (spRef T) := by
  have GF : FnOk P w K mg base (L2.CX P w) 7 NV.sf.f NV.sf.fd ["game", "sums"] (spSfe RG.C RS.C) := ok_sfe B B2 C V0 NG NS NV RG RS
  have GS : FnOk P w K mg base CX0 8 D0.same.f D0.same.fd ["found", "due"] (spSame 7) := ok_same B D0.same 7
  obtain ⟨mf, mfd, mF, mb, mg'⟩ := NT
  obtain ⟨⟨oc, od, kV, doc, pm, an, cdv, ct, osl, rfl, lk, hcd⟩, kp⟩ := mF
  refine NR.F.ok scRef (fun vs H Q E h => ?_) (fun A outer s H vs Q E hr h => ?_)
  · obtain ⟨rfl, _⟩ := h
    rfl
  · obtain ⟨rfl, t0, k⟩ := h
    refine ⟨_, pss_cons (ps_set (i := 0) scRef.nd rfl (Or.inr rfl) (pe_tup (pa_cons (pe_lst (pa_cons (pe_tup (pa_cons pe_str (pa_cons pe_bl pa_nil))) pa_nil)) (pa_cons (pe_lst (pa_cons (pe_tup (pa_cons pe_str (pa_cons pe_str pa_nil))) (pa_cons (pe_tup (pa_cons pe_str (pa_cons pe_str pa_nil))) pa_nil))) (pa_cons (pe_lst (pa_cons pe_str pa_nil)) (pa_cons (pe_lst pa_nil) pa_nil))))))
      (pss_cons (ps_set (i := 1) scRef.nd rfl (Or.inl rfl) (pe_lst (pa_cons pe_non (pa_cons pe_int (pa_cons pe_str (pa_cons (pe_lst pa_nil) (pa_cons pe_dnewK (pa_cons pe_bl (pa_cons (pe_slice sl_tup (pv 0) po_none (po_some pe_int)) (pa_cons (pe_op op_catT (pv 0) (pe_tup (pa_cons (pe_lst pa_nil) pa_nil)))
          (pa_cons (pe_tup (pa_cons (pe_lst (pa_cons (pe_tup (pa_cons pe_str (pa_cons pe_int pa_nil))) pa_nil)) (pa_cons (pe_ix ix_tup (pv 0) pe_int (fun _ _ => rfl)) (pa_cons (pe_lst (pa_cons pe_str pa_nil)) (pa_cons (pe_lst pa_nil) pa_nil))))) pa_nil)))))))))))
      (pss_cons (ps_expr (pe_bm PySem.F.plainAttrs_list PySem.F.slot_list_extend PySem.F.type_list_extend mt_extend (pv 1) (pa_cons (pe_lst
          (pa_cons (pe_tup (pa_cons (pe_ix ix_tup (pv 0) pe_int (fun _ _ => rfl)) (pa_cons (pe_lst pa_nil) (pa_cons (pe_lst (pa_cons pe_str pa_nil)) (pa_cons (pe_lst pa_nil) pa_nil)))))
          (pa_cons (pe_tup (pa_cons (pe_ix ix_tup (pv 0) pe_int (fun _ _ => rfl)) (pa_cons (pe_ix ix_tup (pv 0) pe_int (fun _ _ => rfl)) (pa_cons (pe_lst pa_nil) (pa_cons (pe_lst pa_nil) pa_nil)))))
          (pa_cons (pe_tup (pa_cons (pe_ix ix_tup (pv 0) pe_int (fun _ _ => rfl)) (pa_cons (pe_ix ix_tup (pv 0) pe_int (fun _ _ => rfl)) (pa_cons (pe_lst (pa_cons pe_str pa_nil)) (pa_cons (pe_lst pa_nil) pa_nil))))) pa_nil)))) pa_nil)))
      (pss_cons (ps_expr (pe_bm PySem.F.plainAttrs_list PySem.F.slot_list_extend PySem.F.type_list_extend mt_extend (pv 1) (pa_cons (pe_lst
          (pa_cons (pe_tup (pa_cons (pe_ix ix_tup (pv 0) pe_int (fun _ _ => rfl)) (pa_cons (pe_lst (pa_cons (pe_tup (pa_cons pe_str (pa_cons (pe_tup (pa_cons pe_int (pa_cons pe_int pa_nil))) pa_nil))) pa_nil)) (pa_cons (pe_lst (pa_cons pe_str pa_nil)) (pa_cons (pe_lst pa_nil) pa_nil)))))
          (pa_cons (pe_tup (pa_cons (pe_ix ix_tup (pv 0) pe_int (fun _ _ => rfl)) (pa_cons (pe_lst (pa_cons (pe_tup (pa_cons pe_str (pa_cons pe_str pa_nil))) pa_nil)) (pa_cons (pe_lst (pa_cons pe_str pa_nil)) (pa_cons (pe_lst pa_nil) pa_nil))))) pa_nil))) pa_nil)))
      (pss_cons (ps_expr (pe_bm PySem.F.plainAttrs_list PySem.F.slot_list_append PySem.F.type_list_append mt_append (pv 1) (pa_cons
          (pe_tup (pa_cons (pe_ix ix_tup (pv 0) pe_int (fun _ _ => rfl)) (pa_cons (pe_ix ix_tup (pv 0) pe_int (fun _ _ => rfl)) (pa_cons (pe_lst (pa_cons pe_str pa_nil)) (pa_cons (pe_lst (pa_cons pe_int pa_nil)) pa_nil))))) pa_nil)))
      (pss_cons (ps_if (pt_not (pt_val (pe_call GS (hr.mono (by decide)) (by rfl) D0.same.g D0.same.F.kp D0.same.b .nil pass0 (pa_cons
          (pe_lc (own := [("odd", 3)]) (g := gName 3) (tt := tYes) (te := tLam T (TTmet K RG.C RS.C) (fun E => tCall (spSfe RG.C RS.C) [] E (tCons (tVar 3) (tCons (tC .non) tNil)))) rfl scRef.nd (pi_list (pv 1)) (blkOk_by (own := [("odd", 3)]) (N := nRef) (sc := defScope sRef) (by decide +kernel)) (fun _ _ _ _ _ => pg_name (i := 3) scRef.nd rfl (Or.inr rfl)) (fun _ _ _ _ _ => pts_nil)
            (fun _ _ _ _ _ => pe_lamcall (T := T) (TT := TTmet K RG.C RS.C) (k := 7) (t := fun E => tCall (spSfe RG.C RS.C) [] E (tCons (tVar 3) (tCons (tC .non) tNil))) (by rfl) mg' kp lk hcd mb scMet rfl (.inl rfl) (met_gives (K := K) (mg := mg) rfl rfl RG RS Xf) TO.TB rfl TO.hm TO.hu hr (lamS_blk (by decide +kernel)) rfl (fun _ _ _ _ _ => rfl)
              (fun A outer s H E f c' hr2 => pe_call GF hr2 (by rfl) NV.sf.g NV.sf.F.kp NV.sf.b .nil (passes_call (takes_of rfl rfl rfl rfl) (fun _ _ _ _ h => h)) (pa_cons (pv 3) (pa_cons pe_non pa_nil)))))
          (pa_cons (pe_lc (own := [("odd", 3)]) (g := gName 3) (tt := tYes) (te := tTup (tCons (tC (.str "game")) (tCons (tVar 3) tNil))) rfl scRef.nd (pi_list (pv 1)) (blkOk_by (own := [("odd", 3)]) (N := nRef) (sc := defScope sRef) (by decide +kernel)) (fun _ _ _ _ _ => pg_name (i := 3) scRef.nd rfl (Or.inl rfl)) (fun _ _ _ _ _ => pts_nil)
            (fun _ _ _ _ _ => pe_tup (pa_cons pe_str (pa_cons (pv 3) pa_nil)))) pa_nil))) (fun _ => rfl))) pss_never pss_nil)
      (pss_cons (ps_set (i := 2) scRef.nd rfl (Or.inl rfl) (pe_tup (pa_cons (pe_lst (pa_cons pe_str (pa_cons pe_str pa_nil))) (pa_cons pe_bl pa_nil))))
      (pss_cons (ps_set (i := 1) scRef.nd rfl (Or.inl rfl) (pe_lst (pa_cons (pe_tup (pa_cons pe_non (pa_cons pe_int pa_nil))) (pa_cons (pe_tup (pa_cons pe_str (pa_cons pe_int pa_nil))) (pa_cons (pe_tup (pa_cons pe_dnewK (pa_cons pe_int pa_nil)))
          (pa_cons (pe_tup (pa_cons (pe_lst (pa_cons (pv 2) (pa_cons (pe_tup (pa_cons (pe_lst (pa_cons pe_str (pa_cons pe_str pa_nil))) (pa_cons pe_bl pa_nil))) pa_nil))) (pa_cons pe_int pa_nil)))
          (pa_cons (pe_tup (pa_cons (pe_lst (pa_cons (pe_tup (pa_cons (pe_lst (pa_cons pe_str pa_nil)) (pa_cons pe_bl pa_nil))) pa_nil)) (pa_cons pe_int pa_nil))) pa_nil)))))))
      (pss_cons (ps_expr (pe_bm PySem.F.plainAttrs_list PySem.F.slot_list_extend PySem.F.type_list_extend mt_extend (pv 1) (pa_cons (pe_lst
          (pa_cons (pe_tup (pa_cons (pe_lst (pa_cons (pv 2) (pa_cons (pv 2) (pa_cons pe_int pa_nil)))) (pa_cons pe_int pa_nil)))
          (pa_cons (pe_tup (pa_cons (pe_lst (pa_cons (pe_tup (pa_cons (pe_lst (pa_cons pe_str (pa_cons pe_str pa_nil))) (pa_cons pe_bl pa_nil))) pa_nil)) (pa_cons pe_int pa_nil)))
          (pa_cons (pe_tup (pa_cons (pe_lst (pa_cons (pe_tup (pa_cons (pe_lst (pa_cons pe_str pa_nil)) (pa_cons pe_int pa_nil))) pa_nil)) (pa_cons pe_int pa_nil)))
          (pa_cons (pe_tup (pa_cons (pe_lst (pa_cons (pv 2) (pa_cons (pe_tup (pa_cons (pe_lst (pa_cons pe_str pa_nil)) pa_nil)) pa_nil))) (pa_cons pe_int pa_nil))) pa_nil))))) pa_nil)))
      (pss_cons (ps_for PassesOwn.never rfl (pi_list (pv 1)) (pg_tup rfl (pgs_cons (pg_name (i := 3) scRef.nd rfl (Or.inr rfl)) (pgs_cons (pg_name (i := 4) scRef.nd rfl (Or.inl rfl)) pgs_nil)))
        (pss_one (ps_if (pt_not (pt_val (pe_call GS (hr.mono (by decide)) (by rfl) D0.same.g D0.same.F.kp D0.same.b .nil pass0 (pa_cons
            (pe_lamcall (T := T) (TT := TTmet K RG.C RS.C) (k := 7) (t := fun E => tCall (spSfe RG.C RS.C) [] E (tCons (tVar 0) (tCons (tVar 3) tNil))) (by rfl) mg' kp lk hcd mb scMet rfl (.inl rfl) (met_gives (K := K) (mg := mg) rfl rfl RG RS Xf) TO.TB rfl TO.hm TO.hu hr (lamS_by (sc := defScope sRef) (by decide +kernel)) rfl (fun _ _ _ _ _ => rfl)
              (fun A outer s H E f c' hr2 => pe_call GF hr2 (by rfl) NV.sf.g NV.sf.F.kp NV.sf.b .nil (passes_call (takes_of rfl rfl rfl rfl) (fun _ _ _ _ h => h)) (pa_cons (pv 0) (pa_cons (pv 3) pa_nil))))
            (pa_cons (pe_tup (pa_cons pe_str (pa_cons (pv 4) pa_nil))) pa_nil))) (fun _ => rfl))) pss_never pss_nil)))
      (pss_one (ps_ret pe_bl))))))))))), ?_⟩
    have hT : ∀ {H : Hp} (p : Addr), H p = none → (fun _ : Addr => True) p := fun _ _ => trivial
    /- game -/
    refine run_set (S := fun _ => True) (d := rfG) (mk_tup (mkA_cons (mk_lst hT (mkA_cons (mk_tup (mkA_cons mk_str (mkA_cons mk_bl mkA_nil))) mkA_nil)) (mkA_cons (mk_lst hT (mkA_cons (mk_tup (mkA_cons mk_str (mkA_cons mk_str mkA_nil))) (mkA_cons (mk_tup (mkA_cons mk_str (mkA_cons mk_str mkA_nil))) mkA_nil))) (mkA_cons (mk_lst hT (mkA_cons mk_str mkA_nil)) (mkA_cons (mk_lst hT mkA_nil) mkA_nil))))) fun H1 vg s1 rg => ?_
    refine run_setL (S := fun _ => True) (ds := rfA) (mkA_cons mk_non (mkA_cons mk_int (mkA_cons mk_str (mkA_cons (mk_lst hT mkA_nil) (mkA_cons mk_dnew (mkA_cons mk_bl (mkA_cons (mk_eq (mk_toT (k := 3) (mk_var rfl rg) mk_int (by decide)) rfl) (mkA_cons (mk_eq (mk_catT (mk_var rfl rg) (mk_tup (mkA_cons (mk_lst hT mkA_nil) mkA_nil)) (fun z => nomatch z) (fun z => nomatch z) (by decide)) rfl)
        (mkA_cons (mk_tup (mkA_cons (mk_lst hT (mkA_cons (mk_tup (mkA_cons mk_str (mkA_cons mk_int mkA_nil))) mkA_nil)) (mkA_cons (mk_ixT (mk_var rfl rg) mk_int (at_nat (j := 1) rfl)) (mkA_cons (mk_lst hT (mkA_cons mk_str mkA_nil)) (mkA_cons (mk_lst hT mkA_nil) mkA_nil))))) mkA_nil))))))))) rfl fun H2 va s2 ra lo hlo => ?_
    have nlo1 : H1 lo = none := none_back s2 hlo
    have nlo0 : H lo = none := none_back s1 nlo1
    have s3 : Same H2 (upd H2 lo (.lst va)) := Same.new hlo
    have h3 : upd H2 lo (.lst va) lo = some (.lst va) := upd_same
    have ra3 : Reps (fun b => b ≠ lo) (upd H2 lo (.lst va)) rfA va := Reps.mono (fun b z => fun q => z.2 (q ▸ hlo)) (stay_of s3) ra.here
    have rg3 : Rep (fun b => b ≠ lo) (upd H2 lo (.lst va)) rfG vg := Rep.mono (fun b z => fun q => z.2 (q ▸ nlo1)) (stay_of (s2.trans s3)) rg.here
    have e03 : ExtN H (upd H2 lo (.lst va)) := extN_of (s1.trans (s2.trans s3))
    have t3 := t0.ext (s1.trans (s2.trans s3))
    generalize upd H2 lo (.lst va) = H3 at s3 h3 ra3 rg3 e03 t3 ⊢
    have hS3 : ∀ p, H3 p = none → p ≠ lo := fun p hp z => by rw [z, h3] at hp; cases hp
    have val : va.length = 9 := ra3.length
    refine run_extend (S := fun b => b ≠ lo) (i := 1) (ds := rfB) rfl h3 (mk_lst hS3
        (mkA_cons (mk_tup (mkA_cons (mk_ixT (mk_var rfl rg3) mk_int (at_nat (j := 0) rfl)) (mkA_cons (mk_lst hS3 mkA_nil) (mkA_cons (mk_lst hS3 (mkA_cons mk_str mkA_nil)) (mkA_cons (mk_lst hS3 mkA_nil) mkA_nil)))))
        (mkA_cons (mk_tup (mkA_cons (mk_ixT (mk_var rfl rg3) mk_int (at_nat (j := 0) rfl)) (mkA_cons (mk_ixT (mk_var rfl rg3) mk_int (at_nat (j := 1) rfl)) (mkA_cons (mk_lst hS3 mkA_nil) (mkA_cons (mk_lst hS3 mkA_nil) mkA_nil)))))
        (mkA_cons (mk_tup (mkA_cons (mk_ixT (mk_var rfl rg3) mk_int (at_nat (j := 0) rfl)) (mkA_cons (mk_ixT (mk_var rfl rg3) mk_int (at_nat (j := 1) rfl)) (mkA_cons (mk_lst hS3 (mkA_cons mk_str mkA_nil)) (mkA_cons (mk_lst hS3 mkA_nil) mkA_nil))))) mkA_nil)))) (by rw [val]; show 9 + 3 ≤ 1000; decide) fun H4 u4 s4 r4 => ?_
    have h4 := s4 _ _ h3
    have st4 : Stay (fun b => b ≠ lo) H4 (upd H4 lo (.lst (va ++ u4))) := stay_upd h4 (nd_lst fun z => z rfl)
    have ra5 : Reps (fun b => b ≠ lo) (upd H4 lo (.lst (va ++ u4))) (rfA ++ rfB) (va ++ u4) := Reps.append (Reps.mono (fun _ z => z) st4 (ra3.same s4)) (Reps.mono (fun _ z => z) st4 r4)
    have rg5 : Rep (fun b => b ≠ lo) (upd H4 lo (.lst (va ++ u4))) rfG vg := Rep.mono (fun _ z => z) st4 (rg3.same s4)
    have h5 : upd H4 lo (.lst (va ++ u4)) lo = some (.lst (va ++ u4)) := upd_same
    have e05 : ExtN H (upd H4 lo (.lst (va ++ u4))) := extN_upd (ExtN.refl H) nlo0 (e03.trans (extN_of s4))
    have t5 := tabs_lst (o := .lst (va ++ u4)) (t3.ext s4) h4
    generalize upd H4 lo (.lst (va ++ u4)) = H5 at ra5 rg5 h5 e05 t5 ⊢
    generalize va ++ u4 = vb at ra5 h5
    have hS5 : ∀ p, H5 p = none → p ≠ lo := fun p hp z => by rw [z, h5] at hp; cases hp
    have vbl : vb.length = 12 := ra5.length
    refine run_extend (S := fun b => b ≠ lo) (i := 1) (ds := rfC) rfl h5 (mk_lst hS5
        (mkA_cons (mk_tup (mkA_cons (mk_ixT (mk_var rfl rg5) mk_int (at_nat (j := 0) rfl)) (mkA_cons (mk_lst hS5 (mkA_cons (mk_tup (mkA_cons mk_str (mkA_cons (mk_tup (mkA_cons mk_int (mkA_cons mk_int mkA_nil))) mkA_nil))) mkA_nil)) (mkA_cons (mk_lst hS5 (mkA_cons mk_str mkA_nil)) (mkA_cons (mk_lst hS5 mkA_nil) mkA_nil)))))
        (mkA_cons (mk_tup (mkA_cons (mk_ixT (mk_var rfl rg5) mk_int (at_nat (j := 0) rfl)) (mkA_cons (mk_lst hS5 (mkA_cons (mk_tup (mkA_cons mk_str (mkA_cons mk_str mkA_nil))) mkA_nil)) (mkA_cons (mk_lst hS5 (mkA_cons mk_str mkA_nil)) (mkA_cons (mk_lst hS5 mkA_nil) mkA_nil))))) mkA_nil))) (by rw [vbl]; show 12 + 2 ≤ 1000; decide) fun H6 u6 s6 r6 => ?_
    have h6 := s6 _ _ h5
    have st6 : Stay (fun b => b ≠ lo) H6 (upd H6 lo (.lst (vb ++ u6))) := stay_upd h6 (nd_lst fun z => z rfl)
    have ra7 : Reps (fun b => b ≠ lo) (upd H6 lo (.lst (vb ++ u6))) (rfA ++ rfB ++ rfC) (vb ++ u6) := Reps.append (Reps.mono (fun _ z => z) st6 (ra5.same s6)) (Reps.mono (fun _ z => z) st6 r6)
    have rg7 : Rep (fun b => b ≠ lo) (upd H6 lo (.lst (vb ++ u6))) rfG vg := Rep.mono (fun _ z => z) st6 (rg5.same s6)
    have h7 : upd H6 lo (.lst (vb ++ u6)) lo = some (.lst (vb ++ u6)) := upd_same
    have e07 : ExtN H (upd H6 lo (.lst (vb ++ u6))) := extN_upd (ExtN.refl H) nlo0 (e05.trans (extN_of s6))
    have t7 := tabs_lst (o := .lst (vb ++ u6)) (t5.ext s6) h6
    generalize upd H6 lo (.lst (vb ++ u6)) = H7 at ra7 rg7 h7 e07 t7 ⊢
    generalize vb ++ u6 = vc at ra7 h7
    have hS7 : ∀ p, H7 p = none → p ≠ lo := fun p hp z => by rw [z, h7] at hp; cases hp
    have vcl : vc.length = 14 := ra7.length
    refine run_appendS (S := fun b => b ≠ lo) (i := 1) (d := rfD) rfl h7 (mk_tup (mkA_cons (mk_ixT (mk_var rfl rg7) mk_int (at_nat (j := 0) rfl)) (mkA_cons (mk_ixT (mk_var rfl rg7) mk_int (at_nat (j := 1) rfl)) (mkA_cons (mk_lst hS7 (mkA_cons mk_str mkA_nil)) (mkA_cons (mk_lst hS7 (mkA_cons mk_int mkA_nil)) mkA_nil))))) (by rw [vcl]; decide) fun H8 u8 s8 r8 => ?_
    have h8 := s8 _ _ h7
    have st8 : Stay (fun b => b ≠ lo) H8 (upd H8 lo (.lst (vc ++ [u8]))) := stay_upd h8 (nd_lst fun z => z rfl)
    have ro9 : Reps (fun _ => True) (upd H8 lo (.lst (vc ++ [u8]))) rfL (vc ++ [u8]) := Reps.append (Reps.mono (fun _ _ => trivial) st8 (ra7.same s8)) (Reps.one (Rep.mono (fun _ _ => trivial) st8 r8))
    have rg9 : Rep (fun _ => True) (upd H8 lo (.lst (vc ++ [u8]))) rfG vg := Rep.mono (fun _ _ => trivial) st8 (rg7.same s8)
    have h9 : upd H8 lo (.lst (vc ++ [u8])) lo = some (.lst (vc ++ [u8])) := upd_same
    have e09 : ExtN H (upd H8 lo (.lst (vc ++ [u8]))) := extN_upd (ExtN.refl H) nlo0 (e07.trans (extN_of s8))
    have t9 := tabs_lst (o := .lst (vc ++ [u8])) (t7.ext s8) h8
    generalize upd H8 lo (.lst (vc ++ [u8])) = H9 at ro9 rg9 h9 e09 t9 ⊢
    generalize vc ++ [u8] = vl at ro9 h9
    have vll : vl.length = 15 := ro9.length
    /- the games -/
    dsimp only
    refine ⟨_, rfl, lo, rfl, ⟨_, SqL.of h9⟩, fun F hF => ?_⟩
    refine lc_list (K := K) (a := lo) (xs := vl) (fun i H' => ExtN H9 H' ∧ Tabs T H' ∧ ∃ acc, H' F = some (.lst acc) ∧ acc.length = i ∧ Reps (fun b => b ≠ F) H' ((rfL.take i).map gmP) acc) ⟨extN_of (Same.new hF), t9.ext (Same.new hF), [], upd_same, rfl, rfl⟩ (fun i H' _ h => SqL.of (h.1 _ _ h9 (fun _ z => nomatch z))) ?_ ?_
    · rintro i v H' hx ⟨e', t', acc, hz, hal, rp⟩
      obtain ⟨dO, hdO, rO⟩ := ro9.get hx
      have il : i < 15 := (List.getElem?_eq_some_iff.mp hdO).1
      obtain ⟨bad, gin⟩ := rfL_bad dO (List.mem_of_getElem? hdO)
      have rOF : Rep (fun b => b ≠ F) H' dO v := (Rep.mono (fun b z => fun q => z.2 (q ▸ hF)) (fun _ _ e _ => e) rO.here : Rep (fun b => b ≠ F) H9 dO v).extN e'
      refine ⟨rfl, ?_⟩
      unfold tYes
      refine iteT ?_
      refine ⟨t', fun H5 e5 t5 => ⟨_, rfl, fun _ => True, fun _ => True, dO, .non, v, .non, rfl, (rep_any rOF).extN e5, gameInb_ok gin, .inl ⟨bad, fun H6 d6 s6 h6 => met5 Xf h6 fun p1 hp1 => ?_⟩⟩⟩
      have s7 : Same H6 (upd H6 p1 (.tup [.str "game", v])) := Same.new hp1
      have hp7 : upd H6 p1 (.tup [.str "game", v]) p1 = some (.tup [.str "game", v]) := upd_same
      have e57 : ExtN H' (upd H6 p1 (.tup [.str "game", v])) := e5.trans (extN_of (s6.trans s7))
      have t7 := t5.ext (s6.trans s7)
      generalize upd H6 p1 (.tup [.str "game", v]) = H7 at s7 hp7 e57 t7 ⊢
      have hz7 := e57 _ _ hz (fun _ z => nomatch z)
      have st : Stay (fun b => b ≠ F) H7 (upd H7 F (.lst (acc ++ [.ref p1]))) := stay_upd hz7 (nd_lst fun z => z rfl)
      refine ⟨acc, hz7, Nat.lt_of_lt_of_le (show acc.length < 1000 by omega) (by decide), extN_upd (ExtN.refl H9) hF (e'.trans e57), tabs_lst t7 hz7, acc ++ [.ref p1], upd_same, by rw [List.length_append, hal]; rfl, ?_⟩
      rw [List.take_add_one, hdO, List.map_append]
      exact Reps.append (Reps.mono (fun _ z => z) st (rp.extN e57)) (Reps.one (Rep.mono (fun _ z => z) st ⟨p1, _, rfl, hp7, _, _, rfl, rfl, v, _, rfl, rOF.extN e57, rfl⟩))
    rintro H10 ⟨e10, t10, acc, hz10, hal, rp10⟩
    rw [vll] at rp10
    have rp10 : Reps (fun b => b ≠ F) H10 (rfL.map gmP) acc := rp10
    have h10 := e10 _ _ h9 (fun _ z => nomatch z)
    have ro10 := ro9.extN e10
    refine ⟨_, rfl, lo, rfl, ⟨_, SqL.of h10⟩, fun F2 hF2 => ?_⟩
    refine lc_list (K := K) (a := lo) (xs := vl) (fun i H' => Same H10 H' ∧ ∃ acc2, H' F2 = some (.lst acc2) ∧ acc2.length = i ∧ Reps (fun b => b ≠ F2) H' ((rfL.take i).map gmP) acc2) ⟨Same.new hF2, [], upd_same, rfl, rfl⟩ (fun i H' _ h => SqL.of (h.1 _ _ h10)) ?_ ?_
    · rintro i v H' hx ⟨sm, acc2, hz, hal2, rp⟩
      obtain ⟨dO, hdO, rO⟩ := ro10.get hx
      have il : i < 15 := (List.getElem?_eq_some_iff.mp hdO).1
      have rOF : Rep (fun b => b ≠ F2) H' dO v := Rep.mono (fun b z => fun q => z.2 (q ▸ hF2)) (stay_of sm) rO.here
      refine ⟨rfl, ?_⟩
      unfold tYes
      refine iteT ?_
      refine ⟨_, rfl, by show 2 ≤ sizeLine; decide, fun p1 hp1 => ?_⟩
      have s7 : Same H' (upd H' p1 (.tup [.str "game", v])) := Same.new hp1
      have hp7 : upd H' p1 (.tup [.str "game", v]) p1 = some (.tup [.str "game", v]) := upd_same
      generalize upd H' p1 (.tup [.str "game", v]) = H7 at s7 hp7 ⊢
      have hz7 := s7 _ _ hz
      have st : Stay (fun b => b ≠ F2) H7 (upd H7 F2 (.lst (acc2 ++ [.ref p1]))) := stay_upd hz7 (nd_lst fun z => z rfl)
      refine ⟨acc2, hz7, Nat.lt_of_lt_of_le (show acc2.length < 1000 by omega) (by decide), Same.at (sm.trans s7) hF2, acc2 ++ [.ref p1], upd_same, by rw [List.length_append, hal2]; rfl, ?_⟩
      rw [List.take_add_one, hdO, List.map_append]
      exact Reps.append (Reps.mono (fun _ z => z) st (rp.same s7)) (Reps.one (Rep.mono (fun _ z => z) st ⟨p1, _, rfl, hp7, _, _, rfl, rfl, v, _, rfl, rOF.same s7, rfl⟩))
    rintro H11 ⟨s11, acc2, hz11, hal2, rp11⟩
    rw [vll] at rp11
    have rp11 : Reps (fun b => b ≠ F2) H11 (rfL.map gmP) acc2 := rp11
    refine ⟨fun _ => True, fun _ => True, .lst (rfL.map gmP), .ref F, .ref F2, rfl, ⟨F, acc, rfl, trivial, s11 _ _ hz10, Reps.mono (fun _ _ => trivial) (stay_of s11) rp10⟩, ⟨F2, acc2, rfl, trivial, hz11, Reps.mono (fun _ _ => trivial) (fun _ _ e _ => e) rp11⟩, okdb_ok rfL_same.1, Nat.le_trans rfL_same.2 (by decide), fun H12 s12 => ⟨_, rfl, ?_⟩⟩
    refine iteF ?_
    have e012 : ExtN H H12 := e09.trans (e10.trans (extN_of (s11.trans s12)))
    have t12 := t10.ext (s11.trans s12)
    have rg12 := (rg9.extN e10).same (s11.trans s12)
    /- the sums -/
    refine run_set (S := fun _ => True) (i := 2) (d := rfR) (mk_tup (mkA_cons (mk_lst hT (mkA_cons mk_str (mkA_cons mk_str mkA_nil))) (mkA_cons mk_bl mkA_nil))) fun H13 vr s13 rr => ?_
    refine run_setL (S := fun _ => True) (i := 1) (ds := rfS1.map pD) (mkA_cons (mk_tup (mkA_cons mk_non (mkA_cons mk_int mkA_nil))) (mkA_cons (mk_tup (mkA_cons mk_str (mkA_cons mk_int mkA_nil))) (mkA_cons (mk_tup (mkA_cons mk_dnew (mkA_cons mk_int mkA_nil)))
        (mkA_cons (mk_tup (mkA_cons (mk_lst hT (mkA_cons (mk_var rfl rr) (mkA_cons (mk_tup (mkA_cons (mk_lst hT (mkA_cons mk_str (mkA_cons mk_str mkA_nil))) (mkA_cons mk_bl mkA_nil))) mkA_nil))) (mkA_cons mk_int mkA_nil)))
        (mkA_cons (mk_tup (mkA_cons (mk_lst hT (mkA_cons (mk_tup (mkA_cons (mk_lst hT (mkA_cons mk_str mkA_nil)) (mkA_cons mk_bl mkA_nil))) mkA_nil)) (mkA_cons mk_int mkA_nil))) mkA_nil))))) rfl fun H14 wa s14 ra14 l2 hl2 => ?_
    have nl13 : H13 l2 = none := none_back s14 hl2
    have nl12 : H12 l2 = none := none_back s13 nl13
    have s15 : Same H14 (upd H14 l2 (.lst wa)) := Same.new hl2
    have h15 : upd H14 l2 (.lst wa) l2 = some (.lst wa) := upd_same
    have ra15 : Reps (fun b => b ≠ l2) (upd H14 l2 (.lst wa)) (rfS1.map pD) wa := Reps.mono (fun b z => fun q => z.2 (q ▸ hl2)) (stay_of s15) ra14.here
    have rr15 : Rep (fun b => b ≠ l2) (upd H14 l2 (.lst wa)) rfR vr := Rep.mono (fun b z => fun q => z.2 (q ▸ nl13)) (stay_of (s14.trans s15)) rr.here
    have rg15 : Rep (fun b => b ≠ l2) (upd H14 l2 (.lst wa)) rfG vg := Rep.mono (fun b z => fun q => z.2 (q ▸ nl12)) (stay_of (s13.trans (s14.trans s15))) rg12.here
    have e15 : ExtN H12 (upd H14 l2 (.lst wa)) := extN_of (s13.trans (s14.trans s15))
    have t15 := t12.ext (s13.trans (s14.trans s15))
    generalize upd H14 l2 (.lst wa) = H15 at s15 h15 ra15 rr15 rg15 e15 t15 ⊢
    have hS15 : ∀ p, H15 p = none → p ≠ l2 := fun p hp z => by rw [z, h15] at hp; cases hp
    have wal : wa.length = 5 := ra15.length
    refine run_extend (S := fun b => b ≠ l2) (i := 1) (ds := rfS2.map pD) rfl h15 (mk_lst hS15
        (mkA_cons (mk_tup (mkA_cons (mk_lst hS15 (mkA_cons (mk_var rfl rr15) (mkA_cons (mk_var rfl rr15) (mkA_cons mk_int mkA_nil)))) (mkA_cons mk_int mkA_nil)))
        (mkA_cons (mk_tup (mkA_cons (mk_lst hS15 (mkA_cons (mk_tup (mkA_cons (mk_lst hS15 (mkA_cons mk_str (mkA_cons mk_str mkA_nil))) (mkA_cons mk_bl mkA_nil))) mkA_nil)) (mkA_cons mk_int mkA_nil)))
        (mkA_cons (mk_tup (mkA_cons (mk_lst hS15 (mkA_cons (mk_tup (mkA_cons (mk_lst hS15 (mkA_cons mk_str mkA_nil)) (mkA_cons mk_int mkA_nil))) mkA_nil)) (mkA_cons mk_int mkA_nil)))
        (mkA_cons (mk_tup (mkA_cons (mk_lst hS15 (mkA_cons (mk_var rfl rr15) (mkA_cons (mk_tup (mkA_cons (mk_lst hS15 (mkA_cons mk_str mkA_nil)) mkA_nil)) mkA_nil))) (mkA_cons mk_int mkA_nil))) mkA_nil))))) (by rw [wal]; show 5 + 4 ≤ 1000; decide) fun H16 u16 s16 r16 => ?_
    have h16 := s16 _ _ h15
    have st16 : Stay (fun b => b ≠ l2) H16 (upd H16 l2 (.lst (wa ++ u16))) := stay_upd h16 (nd_lst fun z => z rfl)
    have ro17 : Reps (fun _ => True) (upd H16 l2 (.lst (wa ++ u16))) ((rfS1 ++ rfS2).map pD) (wa ++ u16) := by
      rw [List.map_append]
      exact Reps.append (Reps.mono (fun _ _ => trivial) st16 (ra15.same s16)) (Reps.mono (fun _ _ => trivial) st16 r16)
    have rg17 : Rep (fun _ => True) (upd H16 l2 (.lst (wa ++ u16))) rfG vg := Rep.mono (fun _ _ => trivial) st16 (rg15.same s16)
    have h17 : upd H16 l2 (.lst (wa ++ u16)) l2 = some (.lst (wa ++ u16)) := upd_same
    have e17 : ExtN H12 (upd H16 l2 (.lst (wa ++ u16))) := extN_upd (ExtN.refl H12) nl12 (e15.trans (extN_of s16))
    have t17 := tabs_lst (o := .lst (wa ++ u16)) (t15.ext s16) h16
    generalize upd H16 l2 (.lst (wa ++ u16)) = H17 at ro17 rg17 h17 e17 t17 ⊢
    generalize wa ++ u16 = wl at ro17 h17
    refine ⟨_, rfl, l2, rfl, ⟨_, SqL.of h17⟩, for_list (K := K) (a := l2) (xs := wl) (fun i σ H' => (∃ o3 o4, σ = [some vg, some (.ref l2), some vr, o3, o4]) ∧ ExtN H17 H' ∧ Tabs T H') ⟨⟨_, _, rfl⟩, ExtN.refl _, t17⟩ (fun i σ H' _ y => SqL.of (y.2.1 _ _ h17 (fun _ z => nomatch z))) ?_ ?_⟩
    · rintro i v σ H' hx ⟨⟨o3, o4, rfl⟩, e18, t18⟩
      obtain ⟨dq, hdq, rq⟩ := ro17.get hx
      rw [List.getElem?_map] at hdq
      cases hri : (rfS1 ++ rfS2)[i]? with
      | none => rw [hri] at hdq; cases hdq
      | some q =>
        rw [hri] at hdq
        cases hdq
        obtain ⟨bad, sm, si⟩ := rfS_bad q (List.mem_of_getElem? hri)
        obtain ⟨t, _, rfl, ht, ov, _, rfl, ro, iv, _, rfl, ri, rfl⟩ := rq.extN e18
        cases (show iv = .int (q.2 : Nat) from ri)
        refine ⟨t, _, rfl, SqT.of ht, rfl, ?_⟩
        refine ⟨_, _, rfl, _, _, rfl, rfl, ?_⟩
        refine ⟨t18, fun H19 e19 t19 => ⟨_, rfl, _, rfl, fun _ => True, fun _ => True, rfG, q.1, vg, ov, rfl, (rg17.extN e18).extN e19, gameInb_ok rfG_good.2.1, .inr ⟨rfG_good.1, ro.extN e19, smallb_small sm, fun ds hds x hx => sumInb_ok (List.all_eq_true.mp (onAll_of si ds hds) x hx), rfG_good.2.2, .inl ⟨q.2, bad, fun H6 d6 s6 h6 => met6 Xf h6 fun p1 hp1 => ?_⟩⟩⟩⟩
        refine ⟨_, rfl, by show 2 ≤ sizeLine; decide, fun p2 hp2 => ?_⟩
        have s20 : Same H6 (upd (upd H6 p1 (.tup [.str "sums", .int (q.2 : Nat)])) p2 (.tup [.str "sums", .int (q.2 : Nat)])) := (Same.new hp1).trans (Same.new hp2)
        refine ⟨fun _ => True, fun _ => True, .tup [.str "sums", .int (q.2 : Nat)], .ref p1, .ref p2, rfl, ⟨p1, _, rfl, (Same.new hp2) _ _ upd_same, _, _, rfl, rfl, _, _, rfl, rfl, rfl⟩, ⟨p2, _, rfl, upd_same, _, _, rfl, rfl, _, _, rfl, rfl, rfl⟩, ⟨okd_of (n := 5) (ok_str (by decide +kernel)), trivial, trivial⟩, (show (3 : Nat) ≤ 1000000 by decide), fun H21 s21 => ⟨_, rfl, ?_⟩⟩
        refine iteF ?_
        exact ⟨⟨_, _, rfl⟩, e18.trans (e19.trans (extN_of (s6.trans (s20.trans s21)))), t19.ext (s6.trans (s20.trans s21))⟩
    · rintro σ H' ⟨⟨o3, o4, rfl⟩, e18, t18⟩
      exact k H' (e012.trans (e17.trans e18)) t18
end
end Q1
set_option Elab.async false
set_option linter.all false
set_option maxRecDepth 100000
set_option maxHeartbeats 4000000
namespace Q1
open PySem L2 LamX PyProof.Rows
theorem tabs0 {T : List (Addr × Str)} {H : Hp} (h : ∀ p ∈ T, H p.1 = some (.tbl #[])) : Tabs T H := fun p hp => ⟨#[], h p hp, by first | trivial | (intro x hx; cases hx) | exact ⟨⟩, fun pos cv hc => by cases hc⟩
/-! ### the three games of the law itself -/
theorem sfe_fix {codes : List Nat} {dg du dk dt dn dr o : D} {ks ts ns : List D} {vg vu : V} {S1 S2 : Addr → Prop} {H : Hp} {Q : VK} {E : XK} {CG CS : Addr} (ga : GameAs dg dk dt dn dr ks ts ns) (gb : gameB dg = true) (gi : GameIn dg) (sm : du.small) (si : ∀ ds, du.items? = some ds → ∀ x ∈ ds, SumIn x) (nl : (nmsG dg).length ≤ 90)
    (ec : codesOf (nmsG dg) du = some codes) (cl : codes.length ≤ 40) (G : Gd codes (ts.map handOf) (nxOf (nmsG dg) ns) ks.length)
    (ho : (∃ r, 1 ≤ r ∧ o = lostD r ∧ Sg codes (ts.map handOf) (nxOf (nmsG dg) ns) r (ks.map truthOf) = false ∧ ∀ i, i < r → Sg codes (ts.map handOf) (nxOf (nmsG dg) ns) i (ks.map truthOf) = true) ∨
      ((∀ i, Sg codes (ts.map handOf) (nxOf (nmsG dg) ns) i (ks.map truthOf) = true) ∧ ∃ j L, Stat codes (ts.map handOf) (nxOf (nmsG dg) ns) ks.length j ∧ LotAt codes (ts.map handOf) (nxOf (nmsG dg) ns) ks.length j L ∧ o = keptD (nmsG dg) L))
    (hg : Rep S1 H dg vg) (hu : Rep S2 H du vu) (k : ∀ H' v, Same H H' → Rep (fun a => H a = none) H' o v → Q v H') : spSfe CG CS [vg, vu] H Q E := by
  have bl : (ks.map truthOf).length = ks.length := List.length_map _
  refine ⟨S1, S2, dg, du, vg, vu, rfl, hg, gi, .inr ⟨gb, hu, sm, si, nl, .inr ⟨codes, dk, dt, dn, dr, ks, ts, ns, ec, cl, ga, G, ?_, ?_⟩⟩⟩
  · intro r r1 hr hb H' v s' rv
    rcases ho with ⟨q, q1, rfl, h3, h4⟩ | ⟨all, _⟩
    · have hrq : r = q := by
        rcases Nat.lt_trichotomy r q with z | z | z
        · have := h4 r z
          rw [hr] at this
          cases this
        · exact z
        · have := hb q z
          rw [h3] at this
          cases this
      rw [← hrq] at k
      exact k H' v s' rv
    · rw [all r] at hr
      cases hr
  · intro t L2 hb st2 hL2 H' v s' rv
    rcases ho with ⟨q, q1, rfl, h3, h4⟩ | ⟨all, j, L, hst, hL, rfl⟩
    · exfalso
      by_cases z : q ≤ t
      · have := hb q z
        rw [h3] at this
        cases this
      · have h5 := stat_ge G st2 (i := q) (by omega) (ks.map truthOf) bl
        rw [h3, hb t (Nat.le_refl _)] at h5
        cases h5
    · have eL : L2 = L := lot_uniq G hL2 hL fun row hn => by
        by_cases z : j ≤ t
        · exact stat_ge G hst z row hn
        · exact (stat_ge G st2 (i := j) (by omega) row hn).symm
      rw [eL] at rv
      exact k H' v s' rv
def lwK : List D := [.tup [.str "k", .bl false], .tup [.str "m", .bl true]]
def lwT : List D := [.tup [.str "u", .str "they"], .tup [.str "y", .str "we"]]
def lwN : List D := [.str "y", .str "k"]
def lwG : D := .tup [.lst lwK, .lst lwT, .lst lwN, .lst []]
def lw1 : D := .lst [.tup [.lst [.str "k", .str "y"], .bl true]]
def lw2 : D := .lst [.tup [.lst [.str "k", .str "m"], .bl true], .tup [.lst [.str "y"], .bl false]]
def lw3 : D := .lst [.tup [.lst [.str "k", .str "u"], .bl true]]
def lwH : List Str := ["they", "we"]
def lwP : List Nat := [3, 0]
def lwB : List Bool := [false, true]
theorem lw_as : GameAs lwG (.lst lwK) (.lst lwT) (.lst lwN) (.lst []) lwK lwT lwN := by
  obtain ⟨dk, dt, dn, dr, ks, ts, ns, ga⟩ := game_as (d := lwG) (by decide +kernel)
  have h1 := ga.it
  cases h1
  have h2 := ga.ik
  have h3 := ga.tt
  have h4 := ga.nn
  cases h2
  cases h3
  cases h4
  exact ga
theorem lw_facts : gameB lwG = true ∧ gameInb lwG = true ∧ (nmsG lwG).length ≤ 90 ∧ lwT.map handOf = lwH ∧ nxOf (nmsG lwG) lwN = lwP ∧ lwK.map truthOf = lwB := by decide +kernel
theorem lw_in : ∀ d ∈ [lw1, lw2, lw3], smallb d = true ∧ onAll (fun ds => ds.all sumInb) d = true := by decide +kernel
theorem lw_codes : codesOf (nmsG lwG) lw1 = some [19] ∧ codesOf (nmsG lwG) lw2 = some [7, 16] ∧ codesOf (nmsG lwG) lw3 = some [11] := by decide +kernel
theorem lw_gd {codes : List Nat} (h : ∀ c ∈ codes, lenB c < 6) : Gd codes lwH lwP 2 := ⟨by decide, by decide, by decide +kernel, rfl, by decide, h⟩
theorem lw_len : ∀ c ∈ [19, 7, 16, 11], lenB c < 6 := by decide +kernel
theorem lw_r1 : ∀ row ∈ rowsM 2, Sg [19] lwH lwP 1 row = true := by decide +kernel
theorem lw_r2 : Sg [7, 16] lwH lwP 2 lwB = false ∧ ∀ i, i < 2 → Sg [7, 16] lwH lwP i lwB = true := by decide +kernel
theorem lw_r3 : Sg [11] lwH lwP 1 lwB = false ∧ ∀ i, i < 1 → Sg [11] lwH lwP i lwB = true := by decide +kernel
section
variable {vg vu : V} {S1 S2 : Addr → Prop} {H : Hp} {Q : VK} {E : XK} {CG CS : Addr}
theorem lw_do {codes : List Nat} {du o : D} (hm : du ∈ [lw1, lw2, lw3]) (ec : codesOf (nmsG lwG) du = some codes) (hc : ∀ c ∈ codes, c ∈ [19, 7, 16, 11]) (cl : codes.length ≤ 40)
    (ho : (∃ r, 1 ≤ r ∧ o = lostD r ∧ Sg codes lwH lwP r lwB = false ∧ ∀ i, i < r → Sg codes lwH lwP i lwB = true) ∨ ((∀ i, Sg codes lwH lwP i lwB = true) ∧ ∃ j L, Stat codes lwH lwP 2 j ∧ LotAt codes lwH lwP 2 j L ∧ o = keptD (nmsG lwG) L))
    (hg : Rep S1 H lwG vg) (hu : Rep S2 H du vu) (k : ∀ H' v, Same H H' → Rep (fun a => H a = none) H' o v → Q v H') : spSfe CG CS [vg, vu] H Q E := by
  obtain ⟨f1, f2, f3, f4, f5, f6⟩ := lw_facts
  obtain ⟨i1, i2⟩ := lw_in du hm
  refine sfe_fix lw_as f1 (gameInb_ok f2) (smallb_small i1) (fun ds hds x hx => sumInb_ok (List.all_eq_true.mp (onAll_of i2 ds hds) x hx)) f3 ec cl ?_ ?_ hg hu k
  · rw [f4, f5]
    exact lw_gd fun c h => lw_len c (hc c h)
  · rw [f4, f5, f6]
    exact ho
theorem lw_one (hg : Rep S1 H lwG vg) (hu : Rep S2 H lw1 vu) (k : ∀ H' v, Same H H' → Rep (fun a => H a = none) H' (.tup [.str "kept", .lst []]) v → Q v H') : spSfe CG CS [vg, vu] H Q E := by
  have G : Gd [19] lwH lwP 2 := lw_gd fun c h => lw_len c (by rw [List.mem_singleton.mp h]; decide)
  have st : Stat [19] lwH lwP 2 0 := fun row hn => lw_r1 row ((mem_rows 2 row).mpr hn)
  refine lw_do (o := keptD (nmsG lwG) []) List.mem_cons_self lw_codes.1 (by decide) (by decide) (.inr ⟨fun i => ?_, 0, [], st, lot_zero, rfl⟩) hg hu k
  rw [stat_ge G st (i := i) (Nat.zero_le i) lwB rfl]
  rfl
theorem lw_two (hg : Rep S1 H lwG vg) (hu : Rep S2 H lw2 vu) (k : ∀ H' v, Same H H' → Rep (fun a => H a = none) H' (lostD 2) v → Q v H') : spSfe CG CS [vg, vu] H Q E := lw_do (List.mem_cons_of_mem _ List.mem_cons_self) lw_codes.2.1 (by decide) (by decide) (.inl ⟨2, by decide, rfl, lw_r2⟩) hg hu k
theorem lw_three (hg : Rep S1 H lwG vg) (hu : Rep S2 H lw3 vu) (k : ∀ H' v, Same H H' → Rep (fun a => H a = none) H' (lostD 1) v → Q v H') : spSfe CG CS [vg, vu] H Q E := lw_do (List.mem_cons_of_mem _ (List.mem_cons_of_mem _ List.mem_cons_self)) lw_codes.2.2 (by decide) (by decide) (.inl ⟨1, by decide, rfl, lw_r3⟩) hg hu k
end
theorem same_back {s : Addr} {H1 Hs H' : Hp} (hn : H1 s = none) (sm : Same H1 Hs) (x : SameS s Hs H') : Same H1 H' := fun a o e => x a o (fun z => by rw [z, hn] at e; cases e) (sm a o e)
end Q1
set_option Elab.async false
set_option linter.all false
set_option maxRecDepth 100000
set_option maxHeartbeats 4000000
namespace Q1
open PySem L2 LamX PyProof.Rows
section
variable {P : Program} {w : World} {K : PySem.W.Frag} {mg : Str → Option Value} {base : Heap}
/-! ### law -/
abbrev sLaw : Stmt := top 58
abbrev nLaw : List Str := ["script", "turn", "stream", "k", "game", "found"]
theorem scLaw : FnScope nLaw ["script"] (defScope sLaw) := ⟨rfl, rfl, rfl, by decide +kernel, rfl, by decide +kernel, by decide +kernel⟩
def spLaw (K : PySem.W.Frag) (T : List (Addr × Str)) : Sp := fun vs H Q _ => ∃ (l : Addr) (ns : List Int), vs = [.ref l] ∧ SqL K H l (ns.map V.int) ∧ ns.length < 1000000 ∧ Tabs T H ∧ ∀ H', Q (.bl true) H'
theorem ok_law {T : List (Addr × Str)} (B : Bt mg) (B2 : Bt2 mg) (C : Cs mg) (V0 : Nv mg) (NG : Gm K mg) (NS : Sm K mg) (NV : Sv K mg) (RG : Er1 K mg "BadGame" "BadGame.__init__" (sErr 13) "game") (RS : Er1 K mg "BadSums" "BadSums.__init__" (sErr 11) "index") (Xf : Xe K RG RS) (D0 : Ld K mg) (NSt : Dn K mg "_law_well" sStream ["script", "place"])
    (NR : DnC K mg "_law_refused_right" sRef []) (TO : TrC base T "_law_refused_right.<locals>.<lambda>" NR) (NT : Dn K mg "_law_met" sMet ["ask"]) (NL : Dn K mg "law" sLaw ["script"]) : FnG P w K mg base CX0 11 NL.f NL.fd ["script"] (spLaw K T) := by
  have GF : FnOk P w K mg base (L2.CX P w) 7 NV.sf.f NV.sf.fd ["game", "sums"] (spSfe RG.C RS.C) := ok_sfe B B2 C V0 NG NS NV RG RS
  have GS : FnOk P w K mg base CX0 8 D0.same.f D0.same.fd ["found", "due"] (spSame 7) := ok_same B D0.same 7
  have GSt : FnOk P w K mg base CX0 1 NSt.f NSt.fd ["script", "place"] (spStream K) := ok_stream B NSt
  have GC : FnG P w K mg base CX0 10 D0.cr.f D0.cr.fd ["stream"] spCr := ok_cr B B2 C V0 NG NS NV RG RS D0
  have GRf : FnOk P w K mg base CX0 10 NR.f NR.fd [] (spRef T) := ok_ref B B2 C V0 NG NS NV RG RS Xf D0 NR TO NT
  have hL : LIM = 1000000000 := rfl
  refine FnG.fn NL.F scLaw (fun vs H Q E h => ?_) (fun cdv A outer s H vs Q E hgd hr h => ?_)
  · obtain ⟨l, ns, rfl, _⟩ := h
    rfl
  · obtain ⟨l, ns, rfl, hl, hln, t0, k⟩ := h
    have hg2 := deeper_guards (env := envOfC "law" (defScope sLaw) s.heap.objs.size NL.f cdv) hgd
    refine ⟨_, pss_cons (ps_for PassesOwn.never rfl (pi_range1 (by rfl) B.range (pa_cons pe_int pa_nil)) (pg_name (i := 1) scLaw.nd rfl (Or.inl rfl))
        (pss_cons (ps_set (i := 2) scLaw.nd rfl (Or.inl rfl) (pe_call GSt (hr.mono (by decide)) (by rfl) NSt.g NSt.F.kp NSt.b .nil pass0 (pa_cons (pv 0) (pa_cons (pv 1) pa_nil))))
        (pss_one (ps_for PassesOwn.never rfl (pi_range1 (by rfl) B.range (pa_cons pe_int pa_nil)) (pg_name (i := 3) scLaw.nd rfl (Or.inl rfl))
            (pss_one (ps_if (pt_not (pt_val (pe_callG GC hg2 hr (by rfl) D0.cr.g D0.cr.F.kp D0.cr.b .nil pass0 (pa_cons (pv 2) pa_nil)) (fun _ => rfl))) pss_never pss_nil))))))
      (pss_cons (ps_set (i := 4) scLaw.nd rfl (Or.inl rfl) (pe_tup (pa_cons (pe_lst (pa_cons (pe_tup (pa_cons pe_str (pa_cons pe_bl pa_nil))) (pa_cons (pe_tup (pa_cons pe_str (pa_cons pe_bl pa_nil))) pa_nil))) (pa_cons (pe_lst (pa_cons (pe_tup (pa_cons pe_str (pa_cons pe_str pa_nil))) (pa_cons (pe_tup (pa_cons pe_str (pa_cons pe_str pa_nil))) pa_nil))) (pa_cons (pe_lst (pa_cons pe_str (pa_cons pe_str pa_nil))) (pa_cons (pe_lst pa_nil) pa_nil))))))
      (pss_cons (ps_set (i := 5) scLaw.nd rfl (Or.inl rfl) (pe_lst
          (pa_cons (pe_call GF (hr.mono (by decide)) (by rfl) NV.sf.g NV.sf.F.kp NV.sf.b .nil passL (pa_cons (pv 4) (pa_cons (pe_lst (pa_cons (pe_tup (pa_cons (pe_lst (pa_cons pe_str (pa_cons pe_str pa_nil))) (pa_cons pe_bl pa_nil))) pa_nil)) pa_nil)))
          (pa_cons (pe_call GF (hr.mono (by decide)) (by rfl) NV.sf.g NV.sf.F.kp NV.sf.b .nil passL (pa_cons (pv 4) (pa_cons (pe_lst (pa_cons (pe_tup (pa_cons (pe_lst (pa_cons pe_str (pa_cons pe_str pa_nil))) (pa_cons pe_bl pa_nil))) (pa_cons (pe_tup (pa_cons (pe_lst (pa_cons pe_str pa_nil)) (pa_cons pe_bl pa_nil))) pa_nil))) pa_nil))) pa_nil))))
      (pss_cons (ps_expr (pe_bm PySem.F.plainAttrs_list PySem.F.slot_list_append PySem.F.type_list_append mt_append (pv 5) (pa_cons
          (pe_call GF (hr.mono (by decide)) (by rfl) NV.sf.g NV.sf.F.kp NV.sf.b .nil passL (pa_cons (pv 4) (pa_cons (pe_lst (pa_cons (pe_tup (pa_cons (pe_lst (pa_cons pe_str (pa_cons pe_str pa_nil))) (pa_cons pe_bl pa_nil))) pa_nil)) pa_nil))) pa_nil)))
      (pss_one (ps_ret (pe_and (pe_call GS (hr.mono (by decide)) (by rfl) D0.same.g D0.same.F.kp D0.same.b .nil pass0 (pa_cons (pv 5) (pa_cons (pe_lst (pa_cons (pe_tup (pa_cons pe_str (pa_cons (pe_lst pa_nil) pa_nil))) (pa_cons (pe_tup (pa_cons pe_str (pa_cons pe_int pa_nil))) (pa_cons (pe_tup (pa_cons pe_str (pa_cons pe_int pa_nil))) pa_nil)))) pa_nil)))
          (pe_one (pe_call0 GRf hr (by rfl) NR.g NR.F.toFun.kp NR.b .nil pass0)))))))), ?_⟩
    refine ⟨3, rfl, by decide, by decide, for_range (n := 3) (fun i σ H' => (∃ o1 o2 o3, σ = [some (.ref l), o1, o2, o3, none, none]) ∧ Same H H') ⟨⟨_, _, _, rfl⟩, Same.refl _⟩ ?_ ?_⟩
    · rintro i σ H1 hi ⟨⟨o1, o2, o3, rfl⟩, s1⟩
      rw [Int.zero_add]
      refine ⟨_, rfl, _, rfl, l, i, ns, rfl, Same.seq s1 hl, by omega, hln, fun Hs s sm hsn hs => ?_⟩
      refine ⟨10, rfl, by decide, by decide, for_range (n := 10) (fun j σ H' => (∃ o3, σ = [some (.ref l), some (.int i), some (.ref s), o3, none, none]) ∧ SameS s Hs H' ∧ Strm H' s (10000 * j)) ⟨⟨_, rfl⟩, SameS.refl _, hs⟩ ?_ ?_⟩
      · rintro j σ H2 hj ⟨⟨o3, rfl⟩, s2, hs2⟩
        refine ⟨_, rfl, s, 10000 * j, rfl, hs2, by omega, fun H3 s3 hs3 => ⟨_, rfl, ?_⟩⟩
        refine iteF ?_
        exact ⟨⟨_, rfl⟩, s2.trans s3, hs3.mono (by omega)⟩
      · rintro σ H2 ⟨⟨o3, rfl⟩, s2, hs2⟩
        exact ⟨⟨_, _, _, rfl⟩, s1.trans (same_back hsn sm s2)⟩
    rintro σ H1 ⟨⟨o1, o2, o3, rfl⟩, s1⟩
    have hT : ∀ {H : Hp} (p : Addr), H p = none → (fun _ : Addr => True) p := fun _ _ => trivial
    have t1 := t0.ext s1
    refine run_set (S := fun _ => True) (i := 4) (d := lwG) (mk_tup (mkA_cons (mk_lst hT (mkA_cons (mk_tup (mkA_cons mk_str (mkA_cons mk_bl mkA_nil))) (mkA_cons (mk_tup (mkA_cons mk_str (mkA_cons mk_bl mkA_nil))) mkA_nil))) (mkA_cons (mk_lst hT (mkA_cons (mk_tup (mkA_cons mk_str (mkA_cons mk_str mkA_nil))) (mkA_cons (mk_tup (mkA_cons mk_str (mkA_cons mk_str mkA_nil))) mkA_nil))) (mkA_cons (mk_lst hT (mkA_cons mk_str (mkA_cons mk_str mkA_nil))) (mkA_cons (mk_lst hT mkA_nil) mkA_nil))))) fun H2 vg s2 rg => ?_
    refine ⟨_, rfl, ?_⟩
    refine run_mk (S := fun _ => True) (d := lw1) (mk_lst hT (mkA_cons (mk_tup (mkA_cons (mk_lst hT (mkA_cons mk_str (mkA_cons mk_str mkA_nil))) (mkA_cons mk_bl mkA_nil))) mkA_nil)) fun H3 u1 s3 r1 => ?_
    refine lw_one (E := E0) (rg.same s3) r1 fun H4 v1 s4 q1 => ?_
    have s24 := s3.trans s4
    refine ⟨_, rfl, ?_⟩
    refine run_mk (S := fun _ => True) (d := lw2) (mk_lst hT (mkA_cons (mk_tup (mkA_cons (mk_lst hT (mkA_cons mk_str (mkA_cons mk_str mkA_nil))) (mkA_cons mk_bl mkA_nil))) (mkA_cons (mk_tup (mkA_cons (mk_lst hT (mkA_cons mk_str mkA_nil)) (mkA_cons mk_bl mkA_nil))) mkA_nil))) fun H5 u2 s5 r2 => ?_
    refine lw_two (E := E0) (rg.same (s24.trans s5)) r2 fun H6 v2 s6 q2 => ?_
    have s46 := s5.trans s6
    have s26 := s24.trans s46
    refine ⟨by show 2 ≤ sizeLine; decide, fun lf hlf => ?_⟩
    have s7 : Same H6 (upd H6 lf (.lst [v1, v2])) := Same.new hlf
    have hf7 : upd H6 lf (.lst [v1, v2]) lf = some (.lst [v1, v2]) := upd_same
    have q1' : Rep (fun b => b ≠ lf) (upd H6 lf (.lst [v1, v2])) (.tup [.str "kept", .lst []]) v1 := Rep.mono (fun b z => fun q => z.2 (q ▸ s46.free hlf)) (stay_of (s46.trans s7)) q1.here
    have q2' : Rep (fun b => b ≠ lf) (upd H6 lf (.lst [v1, v2])) (lostD 2) v2 := Rep.mono (fun b z => fun q => z.2 (q ▸ hlf)) (stay_of s7) q2.here
    generalize upd H6 lf (.lst [v1, v2]) = H7 at s7 hf7 q1' q2' ⊢
    have s27 := s26.trans s7
    refine ⟨_, rfl, .inl ⟨rfl, _, SqL.of hf7⟩, ?_⟩
    refine ⟨_, rfl, ?_⟩
    refine run_mk (S := fun _ => True) (d := lw3) (mk_lst hT (mkA_cons (mk_tup (mkA_cons (mk_lst hT (mkA_cons mk_str (mkA_cons mk_str mkA_nil))) (mkA_cons mk_bl mkA_nil))) mkA_nil)) fun H8 u3 s8 r3 => ?_
    refine lw_three (E := E0) (rg.same (s27.trans s8)) r3 fun H9 v3 s9 q3 => ?_
    have s79 := s8.trans s9
    have hf9 := s79 _ _ hf7
    refine ⟨lf, [v1, v2], v3, rfl, rfl, hf9, by show 2 < sizeLine; decide, ?_⟩
    have st : Stay (fun b => b ≠ lf) H9 (upd H9 lf (.lst ([v1, v2] ++ [v3]))) := stay_upd hf9 (nd_lst fun z => z rfl)
    have nlf8 : ∀ b, H8 b = none → b ≠ lf := fun b z q => by rw [q, s8 _ _ hf7] at z; cases z
    have rf : Rep (fun _ => True) (upd H9 lf (.lst ([v1, v2] ++ [v3]))) (.lst [.tup [.str "kept", .lst []], lostD 2, lostD 1]) (.ref lf) := ⟨lf, _, rfl, trivial, upd_same, v1, _, rfl, Rep.mono (fun _ _ => trivial) st (q1'.same s79), v2, _, rfl, Rep.mono (fun _ _ => trivial) st (q2'.same s79), v3, _, rfl, Rep.mono (fun _ _ => trivial) st (Rep.mono nlf8 (fun _ _ e _ => e) q3), rfl⟩
    have tt : Tabs T (upd H9 lf (.lst ([v1, v2] ++ [v3]))) := tabs_lst (t1.ext (s2.trans (s27.trans s79))) hf9
    generalize upd H9 lf (.lst ([v1, v2] ++ [v3])) = H10 at rf tt ⊢
    refine ⟨_, rfl, ?_⟩
    refine run_mk (S := fun _ => True) (d := .lst [.tup [.str "kept", .lst []], lostD 2, lostD 1]) (mk_lst hT (mkA_cons (mk_tup (mkA_cons mk_str (mkA_cons (mk_lst hT mkA_nil) mkA_nil))) (mkA_cons (mk_tup (mkA_cons mk_str (mkA_cons mk_int mkA_nil))) (mkA_cons (mk_tup (mkA_cons mk_str (mkA_cons mk_int mkA_nil))) mkA_nil)))) fun H11 u4 s11 r4 => ?_
    refine ⟨fun _ => True, fun _ => True, .lst [.tup [.str "kept", .lst []], lostD 2, lostD 1], .ref lf, u4, rfl, rf.same s11, r4, okdb_ok (by decide +kernel), (by decide +kernel), fun H12 s12 => ⟨_, rfl, ?_⟩⟩
    refine iteT ?_
    exact ⟨rfl, tt.ext (s11.trans s12), fun H' _ _ => k H'⟩
end
end Q1
set_option Elab.async false
set_option linter.all false
set_option maxRecDepth 100000
set_option maxHeartbeats 4000000
namespace Q1
open PySem PySem.Spec PyProof.Rows L2 LamX
/-! ### the end for a law that shows things: nothing is being shown at its call -/
/-- what is tracked at the law's call: the empty tables, the script where the head doesn't know it -/
def startH (K : PySem.W.Frag) (a : Addr) (o : Obj) (xs : List V) (ts : List Addr) : Hp := fun b => if b ∈ ts then some (.tbl #[]) else if b = a ∧ K.lookup a = none then some (.frz o (.lst xs)) else none
theorem startH_tab {K : PySem.W.Frag} {a b : Addr} {o : Obj} {xs : List V} {ts : List Addr} (h : b ∈ ts) : startH K a o xs ts b = some (.tbl #[]) := if_pos h
theorem startH_cases {K : PySem.W.Frag} {a b : Addr} {o : Obj} {xs : List V} {ts : List Addr} {u : HO} (h : startH K a o xs ts b = some u) : (b ∈ ts ∧ u = .tbl #[]) ∨ (b ∉ ts ∧ b = a ∧ K.lookup a = none ∧ u = .frz o (.lst xs)) := by
  unfold startH at h
  by_cases hb : b ∈ ts
  · rw [if_pos hb] at h
    cases h
    exact .inl ⟨hb, rfl⟩
  · rw [if_neg hb] at h
    by_cases hc : b = a ∧ K.lookup a = none
    · rw [if_pos hc] at h
      cases h
      exact .inr ⟨hb, hc.1, hc.2, rfl⟩
    · rw [if_neg hc] at h
      cases h
section
variable {P : Program} {w : World} {K : PySem.W.Frag} {mg mb : Str → Option Value} {k : Nat} {fa a : Addr} {tabs : List (Addr × Addr)} {fd : FuncData} {x : Str} {sp : Sp} {st : Shared} {vs : List Value} {ns : List Int}
/-- an object without class and fields: a table that nothing has been put into -/
abbrev emptyTab : Obj := { cls := .none, data := .fields #[] }
/-- what stands at the law's call -/
structure AtCall (K : PySem.W.Frag) (mg mb : Str → Option Value) (tabs : List (Addr × Addr)) (st : Shared) (a : Addr) (vs : List Value) (ns : List Int) : Prop where
  known : K.In st.heap
  top : st.heap.Ns mainGlobals mg
  blt : st.heap.Ns builtinsNs mb
  same : ∀ x : Str, x ≠ "__name__" → mb x = bootBuiltins x
  lim : st.heap.NoLimit
  gens : st.gens = #[]
  tab : ∀ p ∈ tabs, st.heap.get? p.2 = some emptyTab ∧ K.lookup p.2 = none ∧ PySem.W.CodeHd st.heap p.1 p.2
  main : ∃ (bm : Addr) (ob : Obj), (mg "__builtins__" = some (.ref bm) ∧ bm ≠ builtinsNs) ∧ st.heap.get? bm = some ob ∧ ob.cls = .type "module" ∧ ob.dict = some builtinsNs ∧ ob.data = .plain
  script : st.heap.get? a = some { cls := .type "list", data := .seq vs.toArray }
  whole : IntsAre vs ns
  size : ns.length ≤ sizeLine
theorem call_endG (hc : AtCall K mg mb tabs st a vs ns) (room : Room k callerA)
    (F : ∀ base : Heap, K.In base → base.Ns mainGlobals mg → (∀ p ∈ tabs, TabB base mg p.1 p.2) → FnG P w K mg base CX0 k fa fd [x] sp) (bnd : ∀ (z : Shared) (u : Value), BindsTo z fd ⟨[u], []⟩ [(x, u)])
    (start : ∀ H : Hp, (∀ p ∈ tabs, H p.2 = some (.tbl #[])) → SqL K H a (ns.map V.int) → sp [.ref a] H (fun v _ => v = .bl true) fun _ _ _ => False) :
    codeAny (model P w) callerA (.call (.ref fa) ⟨[.ref a], []⟩) (fun res fin => res = .ok (.ret (.bool true)) ∧ OldK st.heap fin.heap ∧ fin.os = st.os ∧ AllBare fin.gens) st := by
  obtain ⟨KX, hns, hb, hbb, hlim, hg, tb, hbm, ha, hi, hl⟩ := hc
  have rv := vals_ints hi
  have lenV := hi.length
  have tabAt : ∀ b, b ∈ tabs.map (·.2) → st.heap.get? b = some { cls := .none, data := .fields #[] } ∧ K.lookup b = none ∧ ∃ c, PySem.W.CodeHd st.heap c b := fun b hb => by
    obtain ⟨p, hp, rfl⟩ := List.mem_map.mp hb
    exact ⟨(tb p hp).1, (tb p hp).2.1, p.1, (tb p hp).2.2⟩
  have inT : ∀ p ∈ tabs, p.2 ∈ tabs.map (·.2) := fun p hp => List.mem_map_of_mem hp
  have naT : a ∉ tabs.map (·.2) := fun z => by
    have q := (tabAt a z).1
    rw [ha] at q
    have q2 : Data.seq vs.toArray _ = Data.fields #[] := congrArg Obj.data (Option.some.inj q)
    cases q2
  generalize hH : startH K a { cls := .type "list", data := .seq vs.toArray } (ns.map V.int) (tabs.map (·.2)) = H
  have tabH : ∀ p ∈ tabs, H p.2 = some (.tbl #[]) := fun p hp => hH ▸ startH_tab (inT p hp)
  have casesH : ∀ {b u}, H b = some u → (b ∈ tabs.map (·.2) ∧ u = .tbl #[]) ∨ (b ∉ tabs.map (·.2) ∧ b = a ∧ K.lookup a = none ∧ u = .frz { cls := .type "list", data := .seq vs.toArray } (.lst (ns.map V.int))) := fun {b u} q => startH_cases (by rw [hH]; exact q)
  have seqH : SqL K H a (ns.map V.int) := by
    cases hk : K.lookup a with
    | none => exact .inl (.inr ⟨_, by rw [← hH]; unfold startH; rw [if_neg naT, if_pos ⟨rfl, hk⟩]⟩)
    | some o =>
      have e := KX a o hk
      rw [ha] at e
      cases e
      exact .inr ⟨_, vs.toArray, _, hk, rfl, rfl, rfl, by rw [List.size_toArray, lenV]; exact hl, by simpa using rv⟩
  have okH : HOk P w H st.heap := fun b u q => by
    rcases casesH q with ⟨hb, rfl⟩ | ⟨_, rfl, _, rfl⟩
    · exact (tabAt b hb).1
    · exact ⟨ha, by rw [List.length_map]; exact hl, vs, _, rv, ha⟩
  have seen : ∀ {b : Addr} {o : Obj}, st.heap.get? b = some o → H b = none → (hidT st.heap H).get? b = some o := fun e n => hidT_get e n
  have free : ∀ {b : Addr} {o : Obj}, st.heap.get? b = some o → (∀ vs n, o.data ≠ .seq vs n) → o.data ≠ .fields #[] → H b = none := fun {b o} e h1 h2 => by
    cases q : H b with
    | none => rfl
    | some u =>
      rcases casesH q with ⟨hb, _⟩ | ⟨_, rfl, _, _⟩
      · have z := (tabAt b hb).1
        rw [e] at z
        cases z
        exact (h2 rfl).elim
      · rw [ha] at e
        cases e
        exact (h1 _ _ rfl).elim
  have freeD : ∀ {b : Addr} {o : Obj} {es : Array DictEntry} {ep : Nat}, st.heap.get? b = some o → o.data = .dict es ep → H b = none := fun {b o es ep} e d => free e (fun vs n z => by rw [d] at z; cases z) (fun z => by rw [d] at z; cases z)
  have nsB : ∀ {b : Addr} {m : Str → Option Value}, st.heap.Ns b m → (hidT st.heap H).Ns b m := fun {b m} ⟨o, es, ep, e, d, r⟩ => ⟨o, es, ep, seen e (freeD e d), d, r⟩
  have kinB : K.In (hidT st.heap H) := fun b o e => seen (KX b o e) (by
    cases q : H b with
    | none => rfl
    | some u =>
      rcases casesH q with ⟨hb, _⟩ | ⟨_, rfl, hk, _⟩
      · rw [(tabAt b hb).2.1] at e
        cases e
      · rw [hk] at e
        cases e)
  have modB : L2.Mod K mg (hidT st.heap H) := ⟨kinB, nsB hns, ⟨mb, nsB hb, hbb⟩, let ⟨mc, h1, h2⟩ := hlim; ⟨mc, nsB h1, h2⟩⟩
  have tabB : ∀ p ∈ tabs, TabB (hidT st.heap H) mg p.1 p.2 := fun p hp => by
    have hTp := (tb p hp).1
    obtain ⟨go, ges, gep, ge, gd, _⟩ := id hns
    refine ⟨?_, ?_, fun z => ?_⟩
    · obtain ⟨o, us, fi, tf, fl, tg, iF, tx, tt, e1, r1, r2, r3, r4, r5, r6, r7, r8, hne⟩ := (tb p hp).2.2
      refine ⟨o, us, fi, tf, fl, tg, iF, tx, tt, seen e1 (free e1 (fun vs n z => ?_) fun z => ?_), r1, r2, r3, r4, r5, r6, r7, r8, hne⟩
      · rw [r2] at z
        cases z
      · rw [r2] at z
        cases z
        simp at r3
    · obtain ⟨bm, ob, ⟨b1, b2⟩, b3, b4, b5, b6⟩ := hbm
      refine ⟨bm, ob, b1, b2, fun q => ?_, fun q => ?_, seen b3 (free b3 (fun vs n z => by rw [b6] at z; cases z) fun z => by rw [b6] at z; cases z), b4, b5, b6⟩
      · rw [q, ge] at b3
        cases b3
        rw [gd] at b6
        cases b6
      · rw [q, hTp] at b3
        cases b3
        cases b6
    · rw [z, hTp] at ge
      cases ge
      cases gd
  have e0 : Env0 P w K mg (hidT st.heap H) callerA [] st H := ⟨rfl, modB, fun b o e => of_hidT e, Nat.le_of_eq (hidT_size _ _), trivial, fun b hb => absurd (show b ∈ ([] : List Addr) from hb) (by simp), okH, .of_eq hg⟩
  refine codeAny_mono ((F _ kinB (nsB hns) tabB).run callerA [] st H ⟨[.ref a], []⟩ [.ref a] [.ref a] _ _ rfl room e0 (bnd st (.ref a)) (.cons rfl .nil) (start H tabH seqH)) fun r fin h => ?_
  cases r with
  | error e => exact False.elim h
  | ok fl =>
    cases fl with
    | next => exact False.elim h
    | brk => exact False.elim h
    | cont => exact False.elim h
    | ret u =>
      obtain ⟨v, H2, hos, hbare, un, hok2, rr, q⟩ := h
      obtain rfl : v = .bl true := q
      cases (show u = Value.bool true from rr)
      have stays : ∀ b o, b ∉ tabs.map (·.2) → st.heap.get? b = some o → fin.heap.get? b = some o := fun b o nb e => by
        cases q : H b with
        | none => exact un.keep b o e q (fun z => nomatch (show b ∈ ([] : List Addr) from z)) (by simp)
        | some u =>
          rcases casesH q with ⟨hb, _⟩ | ⟨_, rfl, _, rfl⟩
          · exact absurd hb nb
          · obtain ⟨e2, _⟩ := hok2 b _ (un.frzs b _ _ q)
            rw [ha] at e
            cases e
            exact e2
      have grows : ∀ b, b ∈ tabs.map (·.2) → ∃ more : Array Value, fin.heap.get? b = some { cls := .none, data := .fields more } := fun b hb => by
        obtain ⟨p, hp, rfl⟩ := List.mem_map.mp hb
        obtain ⟨more, z⟩ := un.tbls p.2 #[] (tabH p hp)
        exact ⟨_, hok2 p.2 _ z⟩
      refine ⟨rfl, ⟨fun b o e => ?_, fun b o e => ?_⟩, hos, hbare⟩
      · by_cases hb : b ∈ tabs.map (·.2)
        · obtain ⟨t1, _, c, t3⟩ := tabAt b hb
          obtain ⟨more, hm⟩ := grows b hb
          rw [t1] at e
          cases e
          exact .inr (.inl ⟨(t3.tab t1).isCodeTable, rfl, #[], more, rfl, by rw [Array.empty_append]; exact hm⟩)
        · exact .inl (stays b o hb e)
      · by_cases hb : b ∈ tabs.map (·.2)
        · obtain ⟨more, hm⟩ := grows b hb
          exact ⟨_, hm⟩
        · exact ⟨o, stays b o hb e⟩
end
/-- what the head's heap h must give for the law that stands at fa -/
def LawG (l : PySem.W.OpenLaw) (w : World) (K : PySem.W.Frag) (k n : Nat) (x : Str) (mg : Str → Option Value) (fa : Addr) (h : Heap) : Prop :=
  ∃ (fd : FuncData) (tabs : List (Addr × Addr)) (sp : Sp), (∀ p ∈ tabs, h.get? p.2 = some emptyTab ∧ K.lookup p.2 = none ∧ PySem.W.CodeHd h p.1 p.2) ∧ (∀ (z : Shared) (u : Value), BindsTo z fd ⟨[u], []⟩ [(x, u)]) ∧
    (∀ (H : Hp) (a : Addr) (ns : List Int), ns.length ≤ n → (∀ p ∈ tabs, H p.2 = some (.tbl #[])) → SqL K H a (ns.map V.int) → sp [.ref a] H (fun v _ => v = .bl true) fun _ _ _ => False) ∧
    ∀ base : Heap, K.In base → base.Ns mainGlobals mg → (∀ p ∈ tabs, TabB base mg p.1 p.2) → FnG l.prog w K mg base CX0 k fa fd [x] sp
end Q1
set_option Elab.async false
set_option linter.all false
set_option maxRecDepth 100000
set_option maxHeartbeats 4000000
namespace Q1
open PySem PySem.Spec PyProof.Rows L2 LamX
/-- what is said of the code objects of defs that hold a lambda -/
def HTab (K : PySem.W.Frag) (mg : Str → Option Value) (h : Heap) (names : List Str) : Prop := ∀ nm ∈ names, ∀ (fa c P : Addr) (o : Obj) (fd : FuncData) (e : Value) (dd : Option Addr) (vs : Array Value) (sl : Array (Option Value)), mg nm = some (.ref fa) → K.lookup fa = some o → o.data = .func fd → fd.code = .ref c → K.lookup c = some ⟨e, dd, .fields vs, sl⟩ → vs[11]? = some (.ref P) →
  h.get? P = some { cls := .none, data := .fields #[] } ∧ PySem.W.CodeHd h c P
theorem walkH {l : PySem.W.OpenLaw} {n k : Nat} {q : Program} {loose : List Str} {XP : (Str → Option Value) → Heap → Prop} {YP : World → Heap → Prop} {dr : DefRec} {K : Params → PySem.W.Frag} {x : Str} {names : List Str}
    (most : l.most = some n) (small : n ≤ sizeLine) (plain : dr.params.defaults = []) (room : Room k callerA) (recs : (names.all fun nm => (recsOf q).any fun e => e.name == nm) = true) (inK : ∀ (w : World) (h : Heap), YP w h → (K w.params).In h)
    (give : ∀ (w : World) (mg : Str → Option Value) (fa : Addr) (h : Heap), (K w.params).In h → h.Ns mainGlobals mg → mg dr.name = some (.ref fa) → HTab (K w.params) mg h names → LawG l w (K w.params) k n x mg fa h) :
    PySem.W.WalkO q loose XP YP l.row.toRowW dr [] fun f vs => PySem.call f vs := by
  refine Att.attach_callB most plain fun w _ st mg mb fa _ _ _ _ a vs ns gr yp _ _ _ hmg script whole len _ gens => ?_
  have kin := inK w _ yp
  have HT : HTab (K w.params) mg st.heap names := fun nm hnm fa2 c P o1 fd1 e dd vs1 sl k0 k1 k2 k3 k4 k5 => by
    obtain ⟨rec, hm, hq⟩ := List.any_eq_true.mp (List.all_eq_true.mp recs nm hnm)
    cases (show rec.name = nm from beq_iff_eq.mp hq)
    obtain ⟨_, _, _, _, _, j1, j2, j3, j4, j5, j6⟩ := gr.T.tab rec hm
    rw [k0] at j1
    cases j1
    rw [kin _ _ k1] at j2
    cases j2
    rw [k2] at j3
    cases j3
    rw [k3] at j4
    cases j4
    have hc := PySem.W.CodeHd.of j5 j6
    obtain ⟨⟨_, _, i1, _, i2, i3⟩, i4⟩ := j6
    rw [kin _ _ k4] at i1
    cases i1
    cases i2
    rw [k5] at i3
    cases i3
    exact ⟨i4, hc⟩
  obtain ⟨fd, tabs, sp, tab, bnd, start, F⟩ := give w mg fa _ kin gr.T.g hmg HT
  obtain ⟨bm, ob, b1, b2, b3, b4⟩ := gr.T.bmain
  exact call_endG ⟨kin, gr.T.g, gr.T.b, gr.T.builtins, gr.T.nolimit, gens, tab, ⟨bm, ob, ⟨b1, b2⟩, b3, b4⟩, script, whole, Nat.le_trans len small⟩ room F bnd (fun H hH hS => start H a ns len hH hS)
def lamNames : List Str := ["_law_refused_right"]
theorem law_mk {l : PySem.W.OpenLaw} {w : World} {K : PySem.W.Frag} {h : Heap} {mg : Str → Option Value} {fa : Addr}
    {f_law : Addr} {od_law an_law : Option Addr} {sl_law : Array (Option Value)} {oc_law kV_law dc_law pm_law cd_law ct_law : Value}
    {f_st : Addr} {od_st an_st : Option Addr} {sl_st : Array (Option Value)} {oc_st kV_st dc_st pm_st cd_st ct_st : Value}
    {f_dr : Addr} {od_dr an_dr : Option Addr} {sl_dr : Array (Option Value)} {oc_dr kV_dr dc_dr pm_dr cd_dr ct_dr : Value}
    {f_pk : Addr} {od_pk an_pk : Option Addr} {sl_pk : Array (Option Value)} {oc_pk kV_pk dc_pk pm_pk cd_pk ct_pk : Value}
    {f_mx : Addr} {od_mx an_mx : Option Addr} {sl_mx : Array (Option Value)} {oc_mx kV_mx dc_mx pm_mx cd_mx ct_mx : Value}
    {f_sa : Addr} {od_sa an_sa : Option Addr} {sl_sa : Array (Option Value)} {oc_sa kV_sa dc_sa pm_sa cd_sa ct_sa : Value}
    {f_lo : Addr} {od_lo an_lo : Option Addr} {sl_lo : Array (Option Value)} {oc_lo kV_lo dc_lo pm_lo cd_lo ct_lo : Value}
    {f_la : Addr} {od_la an_la : Option Addr} {sl_la : Array (Option Value)} {oc_la kV_la dc_la pm_la cd_la ct_la : Value}
    {f_os : Addr} {od_os an_os : Option Addr} {sl_os : Array (Option Value)} {oc_os kV_os dc_os pm_os cd_os ct_os : Value}
    {f_oss : Addr} {od_oss an_oss : Option Addr} {sl_oss : Array (Option Value)} {oc_oss kV_oss dc_oss pm_oss cd_oss ct_oss : Value}
    {f_oa : Addr} {od_oa an_oa : Option Addr} {sl_oa : Array (Option Value)} {oc_oa kV_oa dc_oa pm_oa cd_oa ct_oa : Value}
    {f_ol : Addr} {od_ol an_ol : Option Addr} {sl_ol : Array (Option Value)} {oc_ol kV_ol dc_ol pm_ol cd_ol ct_ol : Value}
    {f_oh : Addr} {od_oh an_oh : Option Addr} {sl_oh : Array (Option Value)} {oc_oh kV_oh dc_oh pm_oh cd_oh ct_oh : Value}
    {f_ni : Addr} {od_ni an_ni : Option Addr} {sl_ni : Array (Option Value)} {oc_ni kV_ni dc_ni pm_ni cd_ni ct_ni : Value}
    {f_gr : Addr} {od_gr an_gr : Option Addr} {sl_gr : Array (Option Value)} {oc_gr kV_gr dc_gr pm_gr cd_gr ct_gr : Value}
    {f_gc : Addr} {od_gc an_gc : Option Addr} {sl_gc : Array (Option Value)} {oc_gc kV_gc dc_gc pm_gc cd_gc ct_gc : Value}
    {f_gg : Addr} {od_gg an_gg : Option Addr} {sl_gg : Array (Option Value)} {oc_gg kV_gg dc_gg pm_gg cd_gg ct_gg : Value}
    {f_can : Addr} {od_can an_can : Option Addr} {sl_can : Array (Option Value)} {oc_can kV_can dc_can pm_can cd_can ct_can : Value}
    {f_ch : Addr} {od_ch an_ch : Option Addr} {sl_ch : Array (Option Value)} {oc_ch kV_ch dc_ch pm_ch cd_ch ct_ch : Value}
    {f_du : Addr} {od_du an_du : Option Addr} {sl_du : Array (Option Value)} {oc_du kV_du dc_du pm_du cd_du ct_du : Value}
    {f_dn : Addr} {od_dn an_dn : Option Addr} {sl_dn : Array (Option Value)} {oc_dn kV_dn dc_dn pm_dn cd_dn ct_dn : Value}
    {f_cr : Addr} {od_cr an_cr : Option Addr} {sl_cr : Array (Option Value)} {oc_cr kV_cr dc_cr pm_cr cd_cr ct_cr : Value}
    {f_me : Addr} {od_me an_me : Option Addr} {sl_me : Array (Option Value)} {oc_me kV_me dc_me pm_me cd_me ct_me : Value}
    {f_il : Addr} {od_il an_il : Option Addr} {sl_il : Array (Option Value)} {oc_il kV_il dc_il pm_il cd_il ct_il : Value}
    {f_it : Addr} {od_it an_it : Option Addr} {sl_it : Array (Option Value)} {oc_it kV_it dc_it pm_it cd_it ct_it : Value}
    {f_in_ : Addr} {od_in_ an_in_ : Option Addr} {sl_in_ : Array (Option Value)} {oc_in_ kV_in_ dc_in_ pm_in_ cd_in_ ct_in_ : Value}
    {f_ll : Addr} {od_ll an_ll : Option Addr} {sl_ll : Array (Option Value)} {oc_ll kV_ll dc_ll pm_ll cd_ll ct_ll : Value}
    {f_ap : Addr} {od_ap an_ap : Option Addr} {sl_ap : Array (Option Value)} {oc_ap kV_ap dc_ap pm_ap cd_ap ct_ap : Value}
    {f_ac : Addr} {od_ac an_ac : Option Addr} {sl_ac : Array (Option Value)} {oc_ac kV_ac dc_ac pm_ac cd_ac ct_ac : Value}
    {f_ng : Addr} {od_ng an_ng : Option Addr} {sl_ng : Array (Option Value)} {oc_ng kV_ng dc_ng pm_ng cd_ng ct_ng : Value}
    {f_ig : Addr} {od_ig an_ig : Option Addr} {sl_ig : Array (Option Value)} {oc_ig kV_ig dc_ig pm_ig cd_ig ct_ig : Value}
    {f_ne : Addr} {od_ne an_ne : Option Addr} {sl_ne : Array (Option Value)} {oc_ne kV_ne dc_ne pm_ne cd_ne ct_ne : Value}
    {f_is_ : Addr} {od_is_ an_is_ : Option Addr} {sl_is_ : Array (Option Value)} {oc_is_ kV_is_ dc_is_ pm_is_ cd_is_ ct_is_ : Value}
    {f_mb : Addr} {od_mb an_mb : Option Addr} {sl_mb : Array (Option Value)} {oc_mb kV_mb dc_mb pm_mb cd_mb ct_mb : Value}
    {f_su : Addr} {od_su an_su : Option Addr} {sl_su : Array (Option Value)} {oc_su kV_su dc_su pm_su cd_su ct_su : Value}
    {f_ts : Addr} {od_ts an_ts : Option Addr} {sl_ts : Array (Option Value)} {oc_ts kV_ts dc_ts pm_ts cd_ts ct_ts : Value}
    {f_nsu : Addr} {od_nsu an_nsu : Option Addr} {sl_nsu : Array (Option Value)} {oc_nsu kV_nsu dc_nsu pm_nsu cd_nsu ct_nsu : Value}
    {f_nr : Addr} {od_nr an_nr : Option Addr} {sl_nr : Array (Option Value)} {oc_nr kV_nr dc_nr pm_nr cd_nr ct_nr : Value}
    {f_lp : Addr} {od_lp an_lp : Option Addr} {sl_lp : Array (Option Value)} {oc_lp kV_lp dc_lp pm_lp cd_lp ct_lp : Value}
    {f_sah : Addr} {od_sah an_sah : Option Addr} {sl_sah : Array (Option Value)} {oc_sah kV_sah dc_sah pm_sah cd_sah ct_sah : Value}
    {f_sc : Addr} {od_sc an_sc : Option Addr} {sl_sc : Array (Option Value)} {oc_sc kV_sc dc_sc pm_sc cd_sc ct_sc : Value}
    {f_dh : Addr} {od_dh an_dh : Option Addr} {sl_dh : Array (Option Value)} {oc_dh kV_dh dc_dh pm_dh cd_dh ct_dh : Value}
    {f_sf : Addr} {od_sf an_sf : Option Addr} {sl_sf : Array (Option Value)} {oc_sf kV_sf dc_sf pm_sf cd_sf ct_sf : Value}
    {f_rf : Addr} {od_rf an_rf : Option Addr} {sl_rf : Array (Option Value)} {oc_rf kV_rf dc_rf pm_rf ct_rf : Value}
    {cc_rf t_rf : Addr} {e_rf : Value} {dd_rf : Option Addr} {vs_rf : Array Value} {s2_rf : Array (Option Value)}
    {f_e5 : Addr} {od_e5 an_e5 : Option Addr} {sl_e5 : Array (Option Value)} {oc_e5 kV_e5 dc_e5 pm_e5 cd_e5 ct_e5 : Value} {C_e5 : Addr}
    {f_e6 : Addr} {od_e6 an_e6 : Option Addr} {sl_e6 : Array (Option Value)} {oc_e6 kV_e6 dc_e6 pm_e6 cd_e6 ct_e6 : Value} {C_e6 : Addr}
    {tk1 tk2 tk3 tk4 : Tok}
    (X : K.In h) (G : h.Ns mainGlobals mg) (hfa : mg "law" = some (.ref fa)) (HT : HTab K mg h lamNames)
    (a_law : PySem.W.nsIn K mainGlobals "law" = some (some (.ref f_law)))
    (l_law : K.lookup f_law = some ⟨oc_law, od_law, .func (PySem.W.fnOf "law" "law" (defArgs sLaw) (defBody sLaw) (defScope sLaw) .none kV_law dc_law pm_law an_law cd_law ct_law), sl_law⟩)
    (c_law : PySem.W.codeIn K cd_law "law" = true)
    (k_law : PySem.W.keepIn K (.ref f_law) = true)
    (a_st : PySem.W.nsIn K mainGlobals "_law_well" = some (some (.ref f_st)))
    (l_st : K.lookup f_st = some ⟨oc_st, od_st, .func (PySem.W.fnOf "_law_well" "_law_well" (defArgs sStream) (defBody sStream) (defScope sStream) .none kV_st dc_st pm_st an_st cd_st ct_st), sl_st⟩)
    (c_st : PySem.W.codeIn K cd_st "_law_well" = true)
    (k_st : PySem.W.keepIn K (.ref f_st) = true)
    (a_dr : PySem.W.nsIn K mainGlobals "_law_draw" = some (some (.ref f_dr)))
    (l_dr : K.lookup f_dr = some ⟨oc_dr, od_dr, .func (PySem.W.fnOf "_law_draw" "_law_draw" (defArgs sDraw) (defBody sDraw) (defScope sDraw) .none kV_dr dc_dr pm_dr an_dr cd_dr ct_dr), sl_dr⟩)
    (c_dr : PySem.W.codeIn K cd_dr "_law_draw" = true)
    (k_dr : PySem.W.keepIn K (.ref f_dr) = true)
    (a_pk : PySem.W.nsIn K mainGlobals "_law_pick" = some (some (.ref f_pk)))
    (l_pk : K.lookup f_pk = some ⟨oc_pk, od_pk, .func (PySem.W.fnOf "_law_pick" "_law_pick" (defArgs sPick) (defBody sPick) (defScope sPick) .none kV_pk dc_pk pm_pk an_pk cd_pk ct_pk), sl_pk⟩)
    (c_pk : PySem.W.codeIn K cd_pk "_law_pick" = true)
    (k_pk : PySem.W.keepIn K (.ref f_pk) = true)
    (a_mx : PySem.W.nsIn K mainGlobals "_law_mixed" = some (some (.ref f_mx)))
    (l_mx : K.lookup f_mx = some ⟨oc_mx, od_mx, .func (PySem.W.fnOf "_law_mixed" "_law_mixed" (defArgs sMixed) (defBody sMixed) (defScope sMixed) .none kV_mx dc_mx pm_mx an_mx cd_mx ct_mx), sl_mx⟩)
    (c_mx : PySem.W.codeIn K cd_mx "_law_mixed" = true)
    (k_mx : PySem.W.keepIn K (.ref f_mx) = true)
    (a_sa : PySem.W.nsIn K mainGlobals "_law_same" = some (some (.ref f_sa)))
    (l_sa : K.lookup f_sa = some ⟨oc_sa, od_sa, .func (PySem.W.fnOf "_law_same" "_law_same" (defArgs sSame) (defBody sSame) (defScope sSame) .none kV_sa dc_sa pm_sa an_sa cd_sa ct_sa), sl_sa⟩)
    (c_sa : PySem.W.codeIn K cd_sa "_law_same" = true)
    (k_sa : PySem.W.keepIn K (.ref f_sa) = true)
    (a_lo : PySem.W.nsIn K mainGlobals "_law_loose" = some (some (.ref f_lo)))
    (l_lo : K.lookup f_lo = some ⟨oc_lo, od_lo, .func (PySem.W.fnOf "_law_loose" "_law_loose" (defArgs sLoose) (defBody sLoose) (defScope sLoose) .none kV_lo dc_lo pm_lo an_lo cd_lo ct_lo), sl_lo⟩)
    (c_lo : PySem.W.codeIn K cd_lo "_law_loose" = true)
    (k_lo : PySem.W.keepIn K (.ref f_lo) = true)
    (a_la : PySem.W.nsIn K mainGlobals "_law_spoiled" = some (some (.ref f_la)))
    (l_la : K.lookup f_la = some ⟨oc_la, od_la, .func (PySem.W.fnOf "_law_spoiled" "_law_spoiled" (defArgs sLate) (defBody sLate) (defScope sLate) .none kV_la dc_la pm_la an_la cd_la ct_la), sl_la⟩)
    (c_la : PySem.W.codeIn K cd_la "_law_spoiled" = true)
    (k_la : PySem.W.keepIn K (.ref f_la) = true)
    (a_os : PySem.W.nsIn K mainGlobals "_law_o_sum" = some (some (.ref f_os)))
    (l_os : K.lookup f_os = some ⟨oc_os, od_os, .func (PySem.W.fnOf "_law_o_sum" "_law_o_sum" (defArgs sOs) (defBody sOs) (defScope sOs) .none kV_os dc_os pm_os an_os cd_os ct_os), sl_os⟩)
    (c_os : PySem.W.codeIn K cd_os "_law_o_sum" = true)
    (k_os : PySem.W.keepIn K (.ref f_os) = true)
    (a_oss : PySem.W.nsIn K mainGlobals "_law_o_sums" = some (some (.ref f_oss)))
    (l_oss : K.lookup f_oss = some ⟨oc_oss, od_oss, .func (PySem.W.fnOf "_law_o_sums" "_law_o_sums" (defArgs sOss) (defBody sOss) (defScope sOss) .none kV_oss dc_oss pm_oss an_oss cd_oss ct_oss), sl_oss⟩)
    (c_oss : PySem.W.codeIn K cd_oss "_law_o_sums" = true)
    (k_oss : PySem.W.keepIn K (.ref f_oss) = true)
    (a_oa : PySem.W.nsIn K mainGlobals "_law_o_added" = some (some (.ref f_oa)))
    (l_oa : K.lookup f_oa = some ⟨oc_oa, od_oa, .func (PySem.W.fnOf "_law_o_added" "_law_o_added" (defArgs sOa) (defBody sOa) (defScope sOa) .none kV_oa dc_oa pm_oa an_oa cd_oa ct_oa), sl_oa⟩)
    (c_oa : PySem.W.codeIn K cd_oa "_law_o_added" = true)
    (k_oa : PySem.W.keepIn K (.ref f_oa) = true)
    (a_ol : PySem.W.nsIn K mainGlobals "_law_o_lots" = some (some (.ref f_ol)))
    (l_ol : K.lookup f_ol = some ⟨oc_ol, od_ol, .func (PySem.W.fnOf "_law_o_lots" "_law_o_lots" (defArgs sOl) (defBody sOl) (defScope sOl) .none kV_ol dc_ol pm_ol an_ol cd_ol ct_ol), sl_ol⟩)
    (c_ol : PySem.W.codeIn K cd_ol "_law_o_lots" = true)
    (k_ol : PySem.W.keepIn K (.ref f_ol) = true)
    (a_oh : PySem.W.nsIn K mainGlobals "_law_o_holds" = some (some (.ref f_oh)))
    (l_oh : K.lookup f_oh = some ⟨oc_oh, od_oh, .func (PySem.W.fnOf "_law_o_holds" "_law_o_holds" (defArgs sOh) (defBody sOh) (defScope sOh) .none kV_oh dc_oh pm_oh an_oh cd_oh ct_oh), sl_oh⟩)
    (c_oh : PySem.W.codeIn K cd_oh "_law_o_holds" = true)
    (k_oh : PySem.W.keepIn K (.ref f_oh) = true)
    (a_ni : PySem.W.nsIn K mainGlobals "_law_o_neat_in" = some (some (.ref f_ni)))
    (l_ni : K.lookup f_ni = some ⟨oc_ni, od_ni, .func (PySem.W.fnOf "_law_o_neat_in" "_law_o_neat_in" (defArgs sNi) (defBody sNi) (defScope sNi) .none kV_ni dc_ni pm_ni an_ni cd_ni ct_ni), sl_ni⟩)
    (c_ni : PySem.W.codeIn K cd_ni "_law_o_neat_in" = true)
    (k_ni : PySem.W.keepIn K (.ref f_ni) = true)
    (a_gr : PySem.W.nsIn K mainGlobals "_law_g_rows" = some (some (.ref f_gr)))
    (l_gr : K.lookup f_gr = some ⟨oc_gr, od_gr, .func (PySem.W.fnOf "_law_g_rows" "_law_g_rows" (defArgs sGr) (defBody sGr) (defScope sGr) .none kV_gr dc_gr pm_gr an_gr cd_gr ct_gr), sl_gr⟩)
    (c_gr : PySem.W.codeIn K cd_gr "_law_g_rows" = true)
    (k_gr : PySem.W.keepIn K (.ref f_gr) = true)
    (a_gc : PySem.W.nsIn K mainGlobals "_law_g_clause" = some (some (.ref f_gc)))
    (l_gc : K.lookup f_gc = some ⟨oc_gc, od_gc, .func (PySem.W.fnOf "_law_g_clause" "_law_g_clause" (defArgs sGc) (defBody sGc) (defScope sGc) .none kV_gc dc_gc pm_gc an_gc cd_gc ct_gc), sl_gc⟩)
    (c_gc : PySem.W.codeIn K cd_gc "_law_g_clause" = true)
    (k_gc : PySem.W.keepIn K (.ref f_gc) = true)
    (a_gg : PySem.W.nsIn K mainGlobals "_law_g_game" = some (some (.ref f_gg)))
    (l_gg : K.lookup f_gg = some ⟨oc_gg, od_gg, .func (PySem.W.fnOf "_law_g_game" "_law_g_game" (defArgs sGg) (defBody sGg) (defScope sGg) .none kV_gg dc_gg pm_gg an_gg cd_gg ct_gg), sl_gg⟩)
    (c_gg : PySem.W.codeIn K cd_gg "_law_g_game" = true)
    (k_gg : PySem.W.keepIn K (.ref f_gg) = true)
    (a_can : PySem.W.nsIn K mainGlobals "_law_can" = some (some (.ref f_can)))
    (l_can : K.lookup f_can = some ⟨oc_can, od_can, .func (PySem.W.fnOf "_law_can" "_law_can" (defArgs sCan) (defBody sCan) (defScope sCan) .none kV_can dc_can pm_can an_can cd_can ct_can), sl_can⟩)
    (c_can : PySem.W.codeIn K cd_can "_law_can" = true)
    (k_can : PySem.W.keepIn K (.ref f_can) = true)
    (a_ch : PySem.W.nsIn K mainGlobals "_law_chain" = some (some (.ref f_ch)))
    (l_ch : K.lookup f_ch = some ⟨oc_ch, od_ch, .func (PySem.W.fnOf "_law_chain" "_law_chain" (defArgs sCh) (defBody sCh) (defScope sCh) .none kV_ch dc_ch pm_ch an_ch cd_ch ct_ch), sl_ch⟩)
    (c_ch : PySem.W.codeIn K cd_ch "_law_chain" = true)
    (k_ch : PySem.W.keepIn K (.ref f_ch) = true)
    (a_du : PySem.W.nsIn K mainGlobals "_law_due" = some (some (.ref f_du)))
    (l_du : K.lookup f_du = some ⟨oc_du, od_du, .func (PySem.W.fnOf "_law_due" "_law_due" (defArgs sDu) (defBody sDu) (defScope sDu) .none kV_du dc_du pm_du an_du cd_du ct_du), sl_du⟩)
    (c_du : PySem.W.codeIn K cd_du "_law_due" = true)
    (k_du : PySem.W.keepIn K (.ref f_du) = true)
    (a_dn : PySem.W.nsIn K mainGlobals "_law_drawn" = some (some (.ref f_dn)))
    (l_dn : K.lookup f_dn = some ⟨oc_dn, od_dn, .func (PySem.W.fnOf "_law_drawn" "_law_drawn" (defArgs sDn) (defBody sDn) (defScope sDn) .none kV_dn dc_dn pm_dn an_dn cd_dn ct_dn), sl_dn⟩)
    (c_dn : PySem.W.codeIn K cd_dn "_law_drawn" = true)
    (k_dn : PySem.W.keepIn K (.ref f_dn) = true)
    (a_cr : PySem.W.nsIn K mainGlobals "_law_case_right" = some (some (.ref f_cr)))
    (l_cr : K.lookup f_cr = some ⟨oc_cr, od_cr, .func (PySem.W.fnOf "_law_case_right" "_law_case_right" (defArgs sCr) (defBody sCr) (defScope sCr) .none kV_cr dc_cr pm_cr an_cr cd_cr ct_cr), sl_cr⟩)
    (c_cr : PySem.W.codeIn K cd_cr "_law_case_right" = true)
    (k_cr : PySem.W.keepIn K (.ref f_cr) = true)
    (a_me : PySem.W.nsIn K mainGlobals "_law_met" = some (some (.ref f_me)))
    (l_me : K.lookup f_me = some ⟨oc_me, od_me, .func (PySem.W.fnOf "_law_met" "_law_met" (defArgs sMet) (defBody sMet) (defScope sMet) .none kV_me dc_me pm_me an_me cd_me ct_me), sl_me⟩)
    (c_me : PySem.W.codeIn K cd_me "_law_met" = true)
    (k_me : PySem.W.keepIn K (.ref f_me) = true)
    (a_il : PySem.W.nsIn K mainGlobals "is_list" = some (some (.ref f_il)))
    (l_il : K.lookup f_il = some ⟨oc_il, od_il, .func (PySem.W.fnOf "is_list" "is_list" (defArgs sIsList) (defBody sIsList) (defScope sIsList) .none kV_il dc_il pm_il an_il cd_il ct_il), sl_il⟩)
    (c_il : PySem.W.codeIn K cd_il "is_list" = true)
    (k_il : PySem.W.keepIn K (.ref f_il) = true)
    (a_it : PySem.W.nsIn K mainGlobals "is_tuple_of" = some (some (.ref f_it)))
    (l_it : K.lookup f_it = some ⟨oc_it, od_it, .func (PySem.W.fnOf "is_tuple_of" "is_tuple_of" (defArgs sIsTupleOf) (defBody sIsTupleOf) (defScope sIsTupleOf) .none kV_it dc_it pm_it an_it cd_it ct_it), sl_it⟩)
    (c_it : PySem.W.codeIn K cd_it "is_tuple_of" = true)
    (k_it : PySem.W.keepIn K (.ref f_it) = true)
    (a_in_ : PySem.W.nsIn K mainGlobals "is_name" = some (some (.ref f_in_)))
    (l_in_ : K.lookup f_in_ = some ⟨oc_in_, od_in_, .func (PySem.W.fnOf "is_name" "is_name" (defArgs sIsName) (defBody sIsName) (defScope sIsName) .none kV_in_ dc_in_ pm_in_ an_in_ cd_in_ ct_in_), sl_in_⟩)
    (c_in_ : PySem.W.codeIn K cd_in_ "is_name" = true)
    (k_in_ : PySem.W.keepIn K (.ref f_in_) = true)
    (a_ll : PySem.W.nsIn K mainGlobals "literal_list" = some (some (.ref f_ll)))
    (l_ll : K.lookup f_ll = some ⟨oc_ll, od_ll, .func (PySem.W.fnOf "literal_list" "literal_list" (defArgs sLits) (defBody sLits) (defScope sLits) .none kV_ll dc_ll pm_ll an_ll cd_ll ct_ll), sl_ll⟩)
    (c_ll : PySem.W.codeIn K cd_ll "literal_list" = true)
    (k_ll : PySem.W.keepIn K (.ref f_ll) = true)
    (a_ap : PySem.W.nsIn K mainGlobals "are_pairs" = some (some (.ref f_ap)))
    (l_ap : K.lookup f_ap = some ⟨oc_ap, od_ap, .func (PySem.W.fnOf "are_pairs" "are_pairs" (defArgs sAp) (defBody sAp) (defScope sAp) .none kV_ap dc_ap pm_ap an_ap cd_ap ct_ap), sl_ap⟩)
    (c_ap : PySem.W.codeIn K cd_ap "are_pairs" = true)
    (k_ap : PySem.W.keepIn K (.ref f_ap) = true)
    (a_ac : PySem.W.nsIn K mainGlobals "are_clauses" = some (some (.ref f_ac)))
    (l_ac : K.lookup f_ac = some ⟨oc_ac, od_ac, .func (PySem.W.fnOf "are_clauses" "are_clauses" (defArgs sAc) (defBody sAc) (defScope sAc) .none kV_ac dc_ac pm_ac an_ac cd_ac ct_ac), sl_ac⟩)
    (c_ac : PySem.W.codeIn K cd_ac "are_clauses" = true)
    (k_ac : PySem.W.keepIn K (.ref f_ac) = true)
    (a_ng : PySem.W.nsIn K mainGlobals "names_of_game" = some (some (.ref f_ng)))
    (l_ng : K.lookup f_ng = some ⟨oc_ng, od_ng, .func (PySem.W.fnOf "names_of_game" "names_of_game" (defArgs sNg) (defBody sNg) (defScope sNg) .none kV_ng dc_ng pm_ng an_ng cd_ng ct_ng), sl_ng⟩)
    (c_ng : PySem.W.codeIn K cd_ng "names_of_game" = true)
    (k_ng : PySem.W.keepIn K (.ref f_ng) = true)
    (a_ig : PySem.W.nsIn K mainGlobals "is_game" = some (some (.ref f_ig)))
    (l_ig : K.lookup f_ig = some ⟨oc_ig, od_ig, .func (PySem.W.fnOf "is_game" "is_game" (defArgs sIg) (defBody sIg) (defScope sIg) .none kV_ig dc_ig pm_ig an_ig cd_ig ct_ig), sl_ig⟩)
    (c_ig : PySem.W.codeIn K cd_ig "is_game" = true)
    (k_ig : PySem.W.keepIn K (.ref f_ig) = true)
    (a_ne : PySem.W.nsIn K mainGlobals "need_game" = some (some (.ref f_ne)))
    (l_ne : K.lookup f_ne = some ⟨oc_ne, od_ne, .func (PySem.W.fnOf "need_game" "need_game" (defArgs sNeedG) (defBody sNeedG) (defScope sNeedG) .none kV_ne dc_ne pm_ne an_ne cd_ne ct_ne), sl_ne⟩)
    (c_ne : PySem.W.codeIn K cd_ne "need_game" = true)
    (k_ne : PySem.W.keepIn K (.ref f_ne) = true)
    (a_is_ : PySem.W.nsIn K mainGlobals "is_sum" = some (some (.ref f_is_)))
    (l_is_ : K.lookup f_is_ = some ⟨oc_is_, od_is_, .func (PySem.W.fnOf "is_sum" "is_sum" (defArgs sIs) (defBody sIs) (defScope sIs) .none kV_is_ dc_is_ pm_is_ an_is_ cd_is_ ct_is_), sl_is_⟩)
    (c_is_ : PySem.W.codeIn K cd_is_ "is_sum" = true)
    (k_is_ : PySem.W.keepIn K (.ref f_is_) = true)
    (a_mb : PySem.W.nsIn K mainGlobals "mark_bit" = some (some (.ref f_mb)))
    (l_mb : K.lookup f_mb = some ⟨oc_mb, od_mb, .func (PySem.W.fnOf "mark_bit" "mark_bit" (defArgs sMb) (defBody sMb) (defScope sMb) .none kV_mb dc_mb pm_mb an_mb cd_mb ct_mb), sl_mb⟩)
    (c_mb : PySem.W.codeIn K cd_mb "mark_bit" = true)
    (k_mb : PySem.W.keepIn K (.ref f_mb) = true)
    (a_su : PySem.W.nsIn K mainGlobals "sum_code" = some (some (.ref f_su)))
    (l_su : K.lookup f_su = some ⟨oc_su, od_su, .func (PySem.W.fnOf "sum_code" "sum_code" (defArgs sSuc) (defBody sSuc) (defScope sSuc) .none kV_su dc_su pm_su an_su cd_su ct_su), sl_su⟩)
    (c_su : PySem.W.codeIn K cd_su "sum_code" = true)
    (k_su : PySem.W.keepIn K (.ref f_su) = true)
    (a_ts : PySem.W.nsIn K mainGlobals "told_sum" = some (some (.ref f_ts)))
    (l_ts : K.lookup f_ts = some ⟨oc_ts, od_ts, .func (PySem.W.fnOf "told_sum" "told_sum" (defArgs sTs) (defBody sTs) (defScope sTs) .none kV_ts dc_ts pm_ts an_ts cd_ts ct_ts), sl_ts⟩)
    (c_ts : PySem.W.codeIn K cd_ts "told_sum" = true)
    (k_ts : PySem.W.keepIn K (.ref f_ts) = true)
    (a_nsu : PySem.W.nsIn K mainGlobals "need_sums" = some (some (.ref f_nsu)))
    (l_nsu : K.lookup f_nsu = some ⟨oc_nsu, od_nsu, .func (PySem.W.fnOf "need_sums" "need_sums" (defArgs sNs) (defBody sNs) (defScope sNs) .none kV_nsu dc_nsu pm_nsu an_nsu cd_nsu ct_nsu), sl_nsu⟩)
    (c_nsu : PySem.W.codeIn K cd_nsu "need_sums" = true)
    (k_nsu : PySem.W.keepIn K (.ref f_nsu) = true)
    (a_nr : PySem.W.nsIn K mainGlobals "neat_rows" = some (some (.ref f_nr)))
    (l_nr : K.lookup f_nr = some ⟨oc_nr, od_nr, .func (PySem.W.fnOf "neat_rows" "neat_rows" (defArgs sNr) (defBody sNr) (defScope sNr) .none kV_nr dc_nr pm_nr an_nr cd_nr ct_nr), sl_nr⟩)
    (c_nr : PySem.W.codeIn K cd_nr "neat_rows" = true)
    (k_nr : PySem.W.keepIn K (.ref f_nr) = true)
    (a_lp : PySem.W.nsIn K mainGlobals "last_place" = some (some (.ref f_lp)))
    (l_lp : K.lookup f_lp = some ⟨oc_lp, od_lp, .func (PySem.W.fnOf "last_place" "last_place" (defArgs sLp) (defBody sLp) (defScope sLp) .none kV_lp dc_lp pm_lp an_lp cd_lp ct_lp), sl_lp⟩)
    (c_lp : PySem.W.codeIn K cd_lp "last_place" = true)
    (k_lp : PySem.W.keepIn K (.ref f_lp) = true)
    (a_sah : PySem.W.nsIn K mainGlobals "states_ahead" = some (some (.ref f_sah)))
    (l_sah : K.lookup f_sah = some ⟨oc_sah, od_sah, .func (PySem.W.fnOf "states_ahead" "states_ahead" (defArgs sSa) (defBody sSa) (defScope sSa) .none kV_sah dc_sah pm_sah an_sah cd_sah ct_sah), sl_sah⟩)
    (c_sah : PySem.W.codeIn K cd_sah "states_ahead" = true)
    (k_sah : PySem.W.keepIn K (.ref f_sah) = true)
    (a_sc : PySem.W.nsIn K mainGlobals "stepped_code" = some (some (.ref f_sc)))
    (l_sc : K.lookup f_sc = some ⟨oc_sc, od_sc, .func (PySem.W.fnOf "stepped_code" "stepped_code" (defArgs sSc) (defBody sSc) (defScope sSc) .none kV_sc dc_sc pm_sc an_sc cd_sc ct_sc), sl_sc⟩)
    (c_sc : PySem.W.codeIn K cd_sc "stepped_code" = true)
    (k_sc : PySem.W.keepIn K (.ref f_sc) = true)
    (a_dh : PySem.W.nsIn K mainGlobals "does_hold" = some (some (.ref f_dh)))
    (l_dh : K.lookup f_dh = some ⟨oc_dh, od_dh, .func (PySem.W.fnOf "does_hold" "does_hold" (defArgs sDh) (defBody sDh) (defScope sDh) .none kV_dh dc_dh pm_dh an_dh cd_dh ct_dh), sl_dh⟩)
    (c_dh : PySem.W.codeIn K cd_dh "does_hold" = true)
    (k_dh : PySem.W.keepIn K (.ref f_dh) = true)
    (a_sf : PySem.W.nsIn K mainGlobals "sums_for_ever" = some (some (.ref f_sf)))
    (l_sf : K.lookup f_sf = some ⟨oc_sf, od_sf, .func (PySem.W.fnOf "sums_for_ever" "sums_for_ever" (defArgs sSfe) (defBody sSfe) (defScope sSfe) .none kV_sf dc_sf pm_sf an_sf cd_sf ct_sf), sl_sf⟩)
    (c_sf : PySem.W.codeIn K cd_sf "sums_for_ever" = true)
    (k_sf : PySem.W.keepIn K (.ref f_sf) = true)
    (a_rf : PySem.W.nsIn K mainGlobals "_law_refused_right" = some (some (.ref f_rf)))
    (l_rf : K.lookup f_rf = some ⟨oc_rf, od_rf, .func (PySem.W.fnOf "_law_refused_right" "_law_refused_right" (defArgs sRef) (defBody sRef) (defScope sRef) .none kV_rf dc_rf pm_rf an_rf (.ref cc_rf) ct_rf), sl_rf⟩)
    (c_rf : PySem.W.codeIn K (.ref cc_rf) "_law_refused_right" = true)
    (k_rf : PySem.W.keepIn K (.ref f_rf) = true)
    (p_rf : K.lookup cc_rf = some ⟨e_rf, dd_rf, .fields vs_rf, s2_rf⟩)
    (q_rf : vs_rf[11]? = some (.ref t_rf))
    (n_rf : K.lookup t_rf = none)
    (a_e5 : PySem.W.nsIn K mainGlobals "BadGame" = some (some (.ref C_e5)))
    (x_e5 : ∃ nm q N bs bm sn sub ab col dd k0 k1 k2 k3 k5, K.lookup C_e5 = some (excClassObj nm q C_e5 N bs bm true sn sub ab col dd k0 k1 k2 k3 k5 "ValueError.__new__") ∧ PySem.HandSPX.refsVE bm = true)
    (sa_e5 : PySem.W.findIn K (.ref C_e5) "__setattr__" = some (some (.builtin "object.__setattr__")))
    (ex_e5 : PySem.W.subIn K (.ref C_e5) (.type "BaseException") = some true)
    (ty_e5 : PySem.W.typeIn K (.ref C_e5) = some (.type "type"))
    (kC_e5 : PySem.W.keepIn K (.ref C_e5) = true)
    (iC_e5 : PySem.W.findIn K (.ref C_e5) "__init__" = some (some (.ref f_e5)))
    (l_e5 : K.lookup f_e5 = some ⟨oc_e5, od_e5, .func (PySem.W.fnOf "__init__" "BadGame.__init__" (defArgs (sErr 13)) (defBody (sErr 13)) (defScope (sErr 13)) .none kV_e5 dc_e5 pm_e5 an_e5 cd_e5 ct_e5), sl_e5⟩)
    (c_e5 : PySem.W.codeIn K cd_e5 "BadGame.__init__" = true)
    (k_e5 : PySem.W.keepIn K (.ref f_e5) = true)
    (tI_e5 : PySem.W.typeIn K (.ref f_e5) = some (.type "function"))
    (no_e5 : PySem.W.findIn K (.ref C_e5) "game" = some none)
    (ga_e5 : PySem.W.findIn K (.ref C_e5) "__getattribute__" = some (some (.builtin "BaseException.__getattribute__")))
    (gg_e5 : PySem.W.findIn K (.ref C_e5) "__getattr__" = some none)
    (hd_e5 : PySem.W.hasDictIn K C_e5 = true)
    (a_e6 : PySem.W.nsIn K mainGlobals "BadSums" = some (some (.ref C_e6)))
    (x_e6 : ∃ nm q N bs bm sn sub ab col dd k0 k1 k2 k3 k5, K.lookup C_e6 = some (excClassObj nm q C_e6 N bs bm true sn sub ab col dd k0 k1 k2 k3 k5 "ValueError.__new__") ∧ PySem.HandSPX.refsVE bm = true)
    (sa_e6 : PySem.W.findIn K (.ref C_e6) "__setattr__" = some (some (.builtin "object.__setattr__")))
    (ex_e6 : PySem.W.subIn K (.ref C_e6) (.type "BaseException") = some true)
    (ty_e6 : PySem.W.typeIn K (.ref C_e6) = some (.type "type"))
    (kC_e6 : PySem.W.keepIn K (.ref C_e6) = true)
    (iC_e6 : PySem.W.findIn K (.ref C_e6) "__init__" = some (some (.ref f_e6)))
    (l_e6 : K.lookup f_e6 = some ⟨oc_e6, od_e6, .func (PySem.W.fnOf "__init__" "BadSums.__init__" (defArgs (sErr 11)) (defBody (sErr 11)) (defScope (sErr 11)) .none kV_e6 dc_e6 pm_e6 an_e6 cd_e6 ct_e6), sl_e6⟩)
    (c_e6 : PySem.W.codeIn K cd_e6 "BadSums.__init__" = true)
    (k_e6 : PySem.W.keepIn K (.ref f_e6) = true)
    (tI_e6 : PySem.W.typeIn K (.ref f_e6) = some (.type "function"))
    (no_e6 : PySem.W.findIn K (.ref C_e6) "index" = some none)
    (ga_e6 : PySem.W.findIn K (.ref C_e6) "__getattribute__" = some (some (.builtin "BaseException.__getattribute__")))
    (gg_e6 : PySem.W.findIn K (.ref C_e6) "__getattr__" = some none)
    (hd_e6 : PySem.W.hasDictIn K C_e6 = true)
    (m55 : PySem.W.exmOne K (.ref C_e5) (.ref C_e5) = some true)
    (m65 : PySem.W.exmOne K (.ref C_e6) (.ref C_e5) = some false)
    (m66 : PySem.W.exmOne K (.ref C_e6) (.ref C_e6) = some true)
    (z_isinstance : PySem.W.nsIn K mainGlobals "isinstance" = some none)
    (z_len : PySem.W.nsIn K mainGlobals "len" = some none)
    (z_list : PySem.W.nsIn K mainGlobals "list" = some none)
    (z_tuple : PySem.W.nsIn K mainGlobals "tuple" = some none)
    (z_int : PySem.W.nsIn K mainGlobals "int" = some none)
    (z_bool : PySem.W.nsIn K mainGlobals "bool" = some none)
    (z_str : PySem.W.nsIn K mainGlobals "str" = some none)
    (z_dict : PySem.W.nsIn K mainGlobals "dict" = some none)
    (z_all : PySem.W.nsIn K mainGlobals "all" = some none)
    (z_sum : PySem.W.nsIn K mainGlobals "sum" = some none)
    (z_abs : PySem.W.nsIn K mainGlobals "abs" = some none)
    (z_range : PySem.W.nsIn K mainGlobals "range" = some none)
    (z_enumerate : PySem.W.nsIn K mainGlobals "enumerate" = some none)
    (z_zip : PySem.W.nsIn K mainGlobals "zip" = some none)
    (z_sorted : PySem.W.nsIn K mainGlobals "sorted" = some none)
    (z_set : PySem.W.nsIn K mainGlobals "set" = some none)
    (z_repr : PySem.W.nsIn K mainGlobals "repr" = some none)
    (z_any : PySem.W.nsIn K mainGlobals "any" = some none)
    (g_L : PySem.W.nsIn K mainGlobals "LETTERS" = some (some (.str sLETTERS tk1)))
    (g_F : PySem.W.nsIn K mainGlobals "FIGURES" = some (some (.str sFIGURES tk2)))
    (g_N : PySem.W.nsIn K mainGlobals "LONGEST_NAME" = some (some (.int 8 tk3)))
    (g_V : PySem.W.nsIn K mainGlobals "NEVER" = some (some (.int 1 tk4))) :
    LawG l w K 11 63 "script" mg fa h := by
  have e := hfa.symm.trans (PySem.W.mg_of X G a_law)
  cases e
  have F_law := fun_mk (st := sLaw) l_law c_law k_law
  let N_law : Dn K mg "law" sLaw ["script"] := ⟨_, _, F_law, F_law.binds (ps := ["script"]) fun _ _ _ _ _ _ us hl => match us, hl with | [_], _ => rfl, PySem.W.mg_of X G a_law⟩
  have F_st := fun_mk (st := sStream) l_st c_st k_st
  let N_st : Dn K mg "_law_well" sStream ["script", "place"] := ⟨_, _, F_st, F_st.binds (ps := ["script", "place"]) fun _ _ _ _ _ _ us hl => match us, hl with | [_, _], _ => rfl, PySem.W.mg_of X G a_st⟩
  have F_dr := fun_mk (st := sDraw) l_dr c_dr k_dr
  let N_dr : Dn K mg "_law_draw" sDraw ["well", "many"] := ⟨_, _, F_dr, F_dr.binds (ps := ["well", "many"]) fun _ _ _ _ _ _ us hl => match us, hl with | [_, _], _ => rfl, PySem.W.mg_of X G a_dr⟩
  have F_pk := fun_mk (st := sPick) l_pk c_pk k_pk
  let N_pk : Dn K mg "_law_pick" sPick ["well", "some"] := ⟨_, _, F_pk, F_pk.binds (ps := ["well", "some"]) fun _ _ _ _ _ _ us hl => match us, hl with | [_, _], _ => rfl, PySem.W.mg_of X G a_pk⟩
  have F_mx := fun_mk (st := sMixed) l_mx c_mx k_mx
  let N_mx : Dn K mg "_law_mixed" sMixed ["well", "some"] := ⟨_, _, F_mx, F_mx.binds (ps := ["well", "some"]) fun _ _ _ _ _ _ us hl => match us, hl with | [_, _], _ => rfl, PySem.W.mg_of X G a_mx⟩
  have F_sa := fun_mk (st := sSame) l_sa c_sa k_sa
  let N_sa : Dn K mg "_law_same" sSame ["found", "due"] := ⟨_, _, F_sa, F_sa.binds (ps := ["found", "due"]) fun _ _ _ _ _ _ us hl => match us, hl with | [_, _], _ => rfl, PySem.W.mg_of X G a_sa⟩
  have F_lo := fun_mk (st := sLoose) l_lo c_lo k_lo
  let N_lo : Dn K mg "_law_loose" sLoose ["well", "thing"] := ⟨_, _, F_lo, F_lo.binds (ps := ["well", "thing"]) fun _ _ _ _ _ _ us hl => match us, hl with | [_, _], _ => rfl, PySem.W.mg_of X G a_lo⟩
  have F_la := fun_mk (st := sLate) l_la c_la k_la
  let N_la : Dn K mg "_law_spoiled" sLate ["thing"] := ⟨_, _, F_la, F_la.binds (ps := ["thing"]) fun _ _ _ _ _ _ us hl => match us, hl with | [_], _ => rfl, PySem.W.mg_of X G a_la⟩
  have F_os := fun_mk (st := sOs) l_os c_os k_os
  let N_os : Dn K mg "_law_o_sum" sOs ["stream", "names"] := ⟨_, _, F_os, F_os.binds (ps := ["stream", "names"]) fun _ _ _ _ _ _ us hl => match us, hl with | [_, _], _ => rfl, PySem.W.mg_of X G a_os⟩
  have F_oss := fun_mk (st := sOss) l_oss c_oss k_oss
  let N_oss : Dn K mg "_law_o_sums" sOss ["stream", "names", "many"] := ⟨_, _, F_oss, F_oss.binds (ps := ["stream", "names", "many"]) fun _ _ _ _ _ _ us hl => match us, hl with | [_, _, _], _ => rfl, PySem.W.mg_of X G a_oss⟩
  have F_oa := fun_mk (st := sOa) l_oa c_oa k_oa
  let N_oa : Dn K mg "_law_o_added" sOa ["names", "sums", "lot"] := ⟨_, _, F_oa, F_oa.binds (ps := ["names", "sums", "lot"]) fun _ _ _ _ _ _ us hl => match us, hl with | [_, _, _], _ => rfl, PySem.W.mg_of X G a_oa⟩
  have F_ol := fun_mk (st := sOl) l_ol c_ol k_ol
  let N_ol : Dn K mg "_law_o_lots" sOl ["many"] := ⟨_, _, F_ol, F_ol.binds (ps := ["many"]) fun _ _ _ _ _ _ us hl => match us, hl with | [_], _ => rfl, PySem.W.mg_of X G a_ol⟩
  have F_oh := fun_mk (st := sOh) l_oh c_oh k_oh
  let N_oh : Dn K mg "_law_o_holds" sOh ["one", "truths"] := ⟨_, _, F_oh, F_oh.binds (ps := ["one", "truths"]) fun _ _ _ _ _ _ us hl => match us, hl with | [_, _], _ => rfl, PySem.W.mg_of X G a_oh⟩
  have F_ni := fun_mk (st := sNi) l_ni c_ni k_ni
  let N_ni : Dn K mg "_law_o_neat_in" sNi ["names", "every"] := ⟨_, _, F_ni, F_ni.binds (ps := ["names", "every"]) fun _ _ _ _ _ _ us hl => match us, hl with | [_, _], _ => rfl, PySem.W.mg_of X G a_ni⟩
  have F_gr := fun_mk (st := sGr) l_gr c_gr k_gr
  let N_gr : Dn K mg "_law_g_rows" sGr ["many"] := ⟨_, _, F_gr, F_gr.binds (ps := ["many"]) fun _ _ _ _ _ _ us hl => match us, hl with | [_], _ => rfl, PySem.W.mg_of X G a_gr⟩
  have F_gc := fun_mk (st := sGc) l_gc c_gc k_gc
  let N_gc : Dn K mg "_law_g_clause" sGc ["well", "marks", "most"] := ⟨_, _, F_gc, F_gc.binds (ps := ["well", "marks", "most"]) fun _ _ _ _ _ _ us hl => match us, hl with | [_, _, _], _ => rfl, PySem.W.mg_of X G a_gc⟩
  have F_gg := fun_mk (st := sGg) l_gg c_gg k_gg
  let N_gg : Dn K mg "_law_g_game" sGg ["well", "most"] := ⟨_, _, F_gg, F_gg.binds (ps := ["well", "most"]) fun _ _ _ _ _ _ us hl => match us, hl with | [_, _], _ => rfl, PySem.W.mg_of X G a_gg⟩
  have F_can := fun_mk (st := sCan) l_can c_can k_can
  let N_can : Dn K mg "_law_can" sCan ["game", "sums", "truths", "states"] := ⟨_, _, F_can, F_can.binds (ps := ["game", "sums", "truths", "states"]) fun _ _ _ _ _ _ us hl => match us, hl with | [_, _, _, _], _ => rfl, PySem.W.mg_of X G a_can⟩
  have F_ch := fun_mk (st := sCh) l_ch c_ch k_ch
  let N_ch : Dn K mg "_law_chain" sCh ["game", "sums"] := ⟨_, _, F_ch, F_ch.binds (ps := ["game", "sums"]) fun _ _ _ _ _ _ us hl => match us, hl with | [_, _], _ => rfl, PySem.W.mg_of X G a_ch⟩
  have F_du := fun_mk (st := sDu) l_du c_du k_du
  let N_du : Dn K mg "_law_due" sDu ["game", "sums"] := ⟨_, _, F_du, F_du.binds (ps := ["game", "sums"]) fun _ _ _ _ _ _ us hl => match us, hl with | [_, _], _ => rfl, PySem.W.mg_of X G a_du⟩
  have F_dn := fun_mk (st := sDn) l_dn c_dn k_dn
  let N_dn : Dn K mg "_law_drawn" sDn ["stream", "game"] := ⟨_, _, F_dn, F_dn.binds (ps := ["stream", "game"]) fun _ _ _ _ _ _ us hl => match us, hl with | [_, _], _ => rfl, PySem.W.mg_of X G a_dn⟩
  have F_cr := fun_mk (st := sCr) l_cr c_cr k_cr
  let N_cr : Dn K mg "_law_case_right" sCr ["stream"] := ⟨_, _, F_cr, F_cr.binds (ps := ["stream"]) fun _ _ _ _ _ _ us hl => match us, hl with | [_], _ => rfl, PySem.W.mg_of X G a_cr⟩
  have F_me := fun_mk (st := sMet) l_me c_me k_me
  let N_me : Dn K mg "_law_met" sMet ["ask"] := ⟨_, _, F_me, F_me.binds (ps := ["ask"]) fun _ _ _ _ _ _ us hl => match us, hl with | [_], _ => rfl, PySem.W.mg_of X G a_me⟩
  have F_il := fun_mk (st := sIsList) l_il c_il k_il
  let N_il : Dn K mg "is_list" sIsList ["thing"] := ⟨_, _, F_il, F_il.binds (ps := ["thing"]) fun _ _ _ _ _ _ us hl => match us, hl with | [_], _ => rfl, PySem.W.mg_of X G a_il⟩
  have F_it := fun_mk (st := sIsTupleOf) l_it c_it k_it
  let N_it : Dn K mg "is_tuple_of" sIsTupleOf ["thing", "length"] := ⟨_, _, F_it, F_it.binds (ps := ["thing", "length"]) fun _ _ _ _ _ _ us hl => match us, hl with | [_, _], _ => rfl, PySem.W.mg_of X G a_it⟩
  have F_in_ := fun_mk (st := sIsName) l_in_ c_in_ k_in_
  let N_in_ : Dn K mg "is_name" sIsName ["thing"] := ⟨_, _, F_in_, F_in_.binds (ps := ["thing"]) fun _ _ _ _ _ _ us hl => match us, hl with | [_], _ => rfl, PySem.W.mg_of X G a_in_⟩
  have F_ll := fun_mk (st := sLits) l_ll c_ll k_ll
  let N_ll : Dn K mg "literal_list" sLits ["places", "thing"] := ⟨_, _, F_ll, F_ll.binds (ps := ["places", "thing"]) fun _ _ _ _ _ _ us hl => match us, hl with | [_, _], _ => rfl, PySem.W.mg_of X G a_ll⟩
  have F_ap := fun_mk (st := sAp) l_ap c_ap k_ap
  let N_ap : Dn K mg "are_pairs" sAp ["thing"] := ⟨_, _, F_ap, F_ap.binds (ps := ["thing"]) fun _ _ _ _ _ _ us hl => match us, hl with | [_], _ => rfl, PySem.W.mg_of X G a_ap⟩
  have F_ac := fun_mk (st := sAc) l_ac c_ac k_ac
  let N_ac : Dn K mg "are_clauses" sAc ["names", "thing"] := ⟨_, _, F_ac, F_ac.binds (ps := ["names", "thing"]) fun _ _ _ _ _ _ us hl => match us, hl with | [_, _], _ => rfl, PySem.W.mg_of X G a_ac⟩
  have F_ng := fun_mk (st := sNg) l_ng c_ng k_ng
  let N_ng : Dn K mg "names_of_game" sNg ["game"] := ⟨_, _, F_ng, F_ng.binds (ps := ["game"]) fun _ _ _ _ _ _ us hl => match us, hl with | [_], _ => rfl, PySem.W.mg_of X G a_ng⟩
  have F_ig := fun_mk (st := sIg) l_ig c_ig k_ig
  let N_ig : Dn K mg "is_game" sIg ["thing"] := ⟨_, _, F_ig, F_ig.binds (ps := ["thing"]) fun _ _ _ _ _ _ us hl => match us, hl with | [_], _ => rfl, PySem.W.mg_of X G a_ig⟩
  have F_ne := fun_mk (st := sNeedG) l_ne c_ne k_ne
  let N_ne : Dn K mg "need_game" sNeedG ["game"] := ⟨_, _, F_ne, F_ne.binds (ps := ["game"]) fun _ _ _ _ _ _ us hl => match us, hl with | [_], _ => rfl, PySem.W.mg_of X G a_ne⟩
  have F_is_ := fun_mk (st := sIs) l_is_ c_is_ k_is_
  let N_is_ : Dn K mg "is_sum" sIs ["thing"] := ⟨_, _, F_is_, F_is_.binds (ps := ["thing"]) fun _ _ _ _ _ _ us hl => match us, hl with | [_], _ => rfl, PySem.W.mg_of X G a_is_⟩
  have F_mb := fun_mk (st := sMb) l_mb c_mb k_mb
  let N_mb : Dn K mg "mark_bit" sMb ["place"] := ⟨_, _, F_mb, F_mb.binds (ps := ["place"]) fun _ _ _ _ _ _ us hl => match us, hl with | [_], _ => rfl, PySem.W.mg_of X G a_mb⟩
  have F_su := fun_mk (st := sSuc) l_su c_su k_su
  let N_su : Dn K mg "sum_code" sSuc ["places", "thing"] := ⟨_, _, F_su, F_su.binds (ps := ["places", "thing"]) fun _ _ _ _ _ _ us hl => match us, hl with | [_, _], _ => rfl, PySem.W.mg_of X G a_su⟩
  have F_ts := fun_mk (st := sTs) l_ts c_ts k_ts
  let N_ts : Dn K mg "told_sum" sTs ["names", "code"] := ⟨_, _, F_ts, F_ts.binds (ps := ["names", "code"]) fun _ _ _ _ _ _ us hl => match us, hl with | [_, _], _ => rfl, PySem.W.mg_of X G a_ts⟩
  have F_nsu := fun_mk (st := sNs) l_nsu c_nsu k_nsu
  let N_nsu : Dn K mg "need_sums" sNs ["names", "sums"] := ⟨_, _, F_nsu, F_nsu.binds (ps := ["names", "sums"]) fun _ _ _ _ _ _ us hl => match us, hl with | [_, _], _ => rfl, PySem.W.mg_of X G a_nsu⟩
  have F_nr := fun_mk (st := sNr) l_nr c_nr k_nr
  let N_nr : Dn K mg "neat_rows" sNr ["codes"] := ⟨_, _, F_nr, F_nr.binds (ps := ["codes"]) fun _ _ _ _ _ _ us hl => match us, hl with | [_], _ => rfl, PySem.W.mg_of X G a_nr⟩
  have F_lp := fun_mk (st := sLp) l_lp c_lp k_lp
  let N_lp : Dn K mg "last_place" sLp ["code"] := ⟨_, _, F_lp, F_lp.binds (ps := ["code"]) fun _ _ _ _ _ _ us hl => match us, hl with | [_], _ => rfl, PySem.W.mg_of X G a_lp⟩
  have F_sah := fun_mk (st := sSa) l_sah c_sah k_sah
  let N_sah : Dn K mg "states_ahead" sSa ["game", "codes", "behind"] := ⟨_, _, F_sah, F_sah.binds (ps := ["game", "codes", "behind"]) fun _ _ _ _ _ _ us hl => match us, hl with | [_, _, _], _ => rfl, PySem.W.mg_of X G a_sah⟩
  have F_sc := fun_mk (st := sSc) l_sc c_sc k_sc
  let N_sc : Dn K mg "stepped_code" sSc ["code", "nexts"] := ⟨_, _, F_sc, F_sc.binds (ps := ["code", "nexts"]) fun _ _ _ _ _ _ us hl => match us, hl with | [_, _], _ => rfl, PySem.W.mg_of X G a_sc⟩
  have F_dh := fun_mk (st := sDh) l_dh c_dh k_dh
  let N_dh : Dn K mg "does_hold" sDh ["code", "state"] := ⟨_, _, F_dh, F_dh.binds (ps := ["code", "state"]) fun _ _ _ _ _ _ us hl => match us, hl with | [_, _], _ => rfl, PySem.W.mg_of X G a_dh⟩
  have F_sf := fun_mk (st := sSfe) l_sf c_sf k_sf
  let N_sf : Dn K mg "sums_for_ever" sSfe ["game", "sums"] := ⟨_, _, F_sf, F_sf.binds (ps := ["game", "sums"]) fun _ _ _ _ _ _ us hl => match us, hl with | [_, _], _ => rfl, PySem.W.mg_of X G a_sf⟩
  have FC_rf : FunC K "_law_refused_right" "_law_refused_right" sRef f_rf _ cc_rf := ⟨⟨oc_rf, od_rf, kV_rf, dc_rf, pm_rf, an_rf, ct_rf, sl_rf, rfl, l_rf, c_rf⟩, k_rf⟩
  let N_rf : DnC K mg "_law_refused_right" sRef [] := ⟨f_rf, _, cc_rf, t_rf, FC_rf, FC_rf.toFun.binds (ps := []) fun _ _ _ _ _ _ us hl => match us, hl with | [], _ => rfl, PySem.W.mg_of X G a_rf⟩
  have F_e5 := fun_mk (st := sErr 13) l_e5 c_e5 k_e5
  let E_e5 : Er1 K mg "BadGame" "BadGame.__init__" (sErr 13) "game" := ⟨C_e5, f_e5, _, F_e5, F_e5.binds (ps := ["self", "game"]) fun _ _ _ _ _ _ us hl => match us, hl with | [_, _], _ => rfl, ⟨x_e5, sa_e5, ex_e5, ty_e5, kC_e5⟩, iC_e5, tI_e5, PySem.W.mg_of X G a_e5, no_e5⟩
  have F_e6 := fun_mk (st := sErr 11) l_e6 c_e6 k_e6
  let E_e6 : Er1 K mg "BadSums" "BadSums.__init__" (sErr 11) "index" := ⟨C_e6, f_e6, _, F_e6, F_e6.binds (ps := ["self", "index"]) fun _ _ _ _ _ _ us hl => match us, hl with | [_, _], _ => rfl, ⟨x_e6, sa_e6, ex_e6, ty_e6, kC_e6⟩, iC_e6, tI_e6, PySem.W.mg_of X G a_e6, no_e6⟩
  have B : Bt mg := ⟨PySem.W.mg_none_of X G z_isinstance, PySem.W.mg_none_of X G z_len, PySem.W.mg_none_of X G z_list, PySem.W.mg_none_of X G z_tuple, PySem.W.mg_none_of X G z_int, PySem.W.mg_none_of X G z_bool, PySem.W.mg_none_of X G z_str, PySem.W.mg_none_of X G z_dict, PySem.W.mg_none_of X G z_all, PySem.W.mg_none_of X G z_sum, PySem.W.mg_none_of X G z_abs, PySem.W.mg_none_of X G z_range, PySem.W.mg_none_of X G z_enumerate, PySem.W.mg_none_of X G z_zip, PySem.W.mg_none_of X G z_sorted, PySem.W.mg_none_of X G z_set, PySem.W.mg_none_of X G z_repr⟩
  have B2 : Bt2 mg := ⟨PySem.W.mg_none_of X G z_any⟩
  have C : Cs mg := ⟨⟨tk1, PySem.W.mg_of X G g_L⟩, ⟨tk2, PySem.W.mg_of X G g_F⟩, ⟨tk3, PySem.W.mg_of X G g_N⟩⟩
  have V0 : Nv mg := ⟨⟨tk4, PySem.W.mg_of X G g_V⟩⟩
  let NG : Gm K mg := ⟨N_il, N_it, N_in_, N_ll, N_ap, N_ac, N_ng, N_ig, N_ne⟩
  let NS : Sm K mg := ⟨N_il, N_it, N_in_, N_is_, N_mb, N_su, N_ts, N_nsu⟩
  let NV : Sv K mg := ⟨N_nr, N_lp, N_sah, N_sc, N_dh, N_sf⟩
  let D0 : Ld K mg := ⟨N_dr, N_pk, N_mx, N_sa, N_lo, N_la, N_os, N_oss, N_oa, N_ol, N_oh, N_ni, N_gr, N_gc, N_gg, N_can, N_ch, N_du, N_dn, N_cr⟩
  have Xf : Xe K E_e5 E_e6 := ⟨⟨ga_e5, gg_e5, ex_e5, hd_e5⟩, ⟨ga_e6, gg_e6, ex_e6, hd_e6⟩, m55, m65, m66⟩
  have h2 := HT "_law_refused_right" (by decide) f_rf cc_rf t_rf _ _ _ _ _ _ N_rf.g l_rf rfl rfl p_rf q_rf
  have mem : ∀ {Pr : Addr × Addr → Prop}, Pr (cc_rf, t_rf) → ∀ p ∈ [(cc_rf, t_rf)], Pr p := fun a p hp => by
    simp only [List.mem_cons, List.not_mem_nil, or_false] at hp
    subst hp
    exact a
  refine ⟨PySem.W.fnOf "law" "law" (defArgs sLaw) (defBody sLaw) (defScope sLaw) .none kV_law dc_law pm_law an_law cd_law ct_law, [(cc_rf, t_rf)], spLaw K [(t_rf, "_law_refused_right.<locals>.<lambda>")], mem ⟨h2.1, n_rf, h2.2⟩, fun s u => .of_eq rfl, fun H a ns hl hH hS => ⟨a, ns, rfl, hS, by omega, tabs0 (fun p hp => ?_), fun H' => rfl⟩, fun base KB GB TB => ?_⟩
  · simp only [List.mem_cons, List.not_mem_nil, or_false] at hp
    subst hp
    exact hH (cc_rf, t_rf) (by simp)
  · have TR : TrC base [(t_rf, "_law_refused_right.<locals>.<lambda>")] "_law_refused_right.<locals>.<lambda>" N_rf := ⟨TB (cc_rf, t_rf) (by simp), by simp [N_rf], fun p hp e => by
      simp only [List.mem_cons, List.not_mem_nil, or_false] at hp
      subst hp
      rfl⟩
    exact ok_law B B2 C V0 NG NS NV E_e5 E_e6 Xf D0 N_st N_rf TR N_me N_law
end Q1
open PySem PySem.W PyProof.Rows
set_option Elab.async false
set_option maxRecDepth 100000 in
set_option maxHeartbeats 0 in
theorem PySem.Challenge.cw_marksinturn_k35_whole_sums_for_ever_holds : PySem.Challenge.rw_marksinturn_k35_whole_sums_for_ever.Holds := by
  w_on; o_law
  k_head
  (case hw => w_witness2)
  k_fill
  refine Q1.walkH (l := PySem.Challenge.rw_marksinturn_k35_whole_sums_for_ever) (n := 63) (k := 11) (x := "script") (names := Q1.lamNames) rfl (by decide) rfl ⟨rfl, by decide, by decide⟩ ?R (fun w h Y => PySem.W.km_in_of Y) ?F
  case R => first | rfl | decide +kernel
  case F =>
    intro w mg fa h KX G hmg HT
    refine' Q1.law_mk KX G hmg HT ?a_law ?l_law ?c_law ?k_law ?a_st ?l_st ?c_st ?k_st ?a_dr ?l_dr ?c_dr ?k_dr ?a_pk ?l_pk ?c_pk ?k_pk ?a_mx ?l_mx ?c_mx ?k_mx ?a_sa ?l_sa ?c_sa ?k_sa ?a_lo ?l_lo ?c_lo ?k_lo ?a_la ?l_la ?c_la ?k_la ?a_os ?l_os ?c_os ?k_os ?a_oss ?l_oss ?c_oss ?k_oss ?a_oa ?l_oa ?c_oa ?k_oa ?a_ol ?l_ol ?c_ol ?k_ol ?a_oh ?l_oh ?c_oh ?k_oh ?a_ni ?l_ni ?c_ni ?k_ni ?a_gr ?l_gr ?c_gr ?k_gr ?a_gc ?l_gc ?c_gc ?k_gc ?a_gg ?l_gg ?c_gg ?k_gg ?a_can ?l_can ?c_can ?k_can ?a_ch ?l_ch ?c_ch ?k_ch ?a_du ?l_du ?c_du ?k_du ?a_dn ?l_dn ?c_dn ?k_dn ?a_cr ?l_cr ?c_cr ?k_cr ?a_me ?l_me ?c_me ?k_me ?a_il ?l_il ?c_il ?k_il ?a_it ?l_it ?c_it ?k_it ?a_in_ ?l_in_ ?c_in_ ?k_in_ ?a_ll ?l_ll ?c_ll ?k_ll ?a_ap ?l_ap ?c_ap ?k_ap ?a_ac ?l_ac ?c_ac ?k_ac ?a_ng ?l_ng ?c_ng ?k_ng ?a_ig ?l_ig ?c_ig ?k_ig ?a_ne ?l_ne ?c_ne ?k_ne ?a_is_ ?l_is_ ?c_is_ ?k_is_ ?a_mb ?l_mb ?c_mb ?k_mb ?a_su ?l_su ?c_su ?k_su ?a_ts ?l_ts ?c_ts ?k_ts ?a_nsu ?l_nsu ?c_nsu ?k_nsu ?a_nr ?l_nr ?c_nr ?k_nr ?a_lp ?l_lp ?c_lp ?k_lp ?a_sah ?l_sah ?c_sah ?k_sah ?a_sc ?l_sc ?c_sc ?k_sc ?a_dh ?l_dh ?c_dh ?k_dh ?a_sf ?l_sf ?c_sf ?k_sf ?a_rf ?l_rf ?c_rf ?k_rf ?p_rf ?q_rf ?n_rf ?a_e5 ?x_e5 ?sa_e5 ?ex_e5 ?ty_e5 ?kC_e5 ?iC_e5 ?l_e5 ?c_e5 ?k_e5 ?tI_e5 ?no_e5 ?ga_e5 ?gg_e5 ?hd_e5 ?a_e6 ?x_e6 ?sa_e6 ?ex_e6 ?ty_e6 ?kC_e6 ?iC_e6 ?l_e6 ?c_e6 ?k_e6 ?tI_e6 ?no_e6 ?ga_e6 ?gg_e6 ?hd_e6 ?m55 ?m65 ?m66 ?z_isinstance ?z_len ?z_list ?z_tuple ?z_int ?z_bool ?z_str ?z_dict ?z_all ?z_sum ?z_abs ?z_range ?z_enumerate ?z_zip ?z_sorted ?z_set ?z_repr ?z_any ?g_L ?g_F ?g_N ?g_V
    (case a_law => k_is)
    (case l_law => k_is)
    (case c_law => k_is)
    (case k_law => k_is)
    (case a_st => k_is)
    (case l_st => k_is)
    (case c_st => k_is)
    (case k_st => k_is)
    (case a_dr => k_is)
    (case l_dr => k_is)
    (case c_dr => k_is)
    (case k_dr => k_is)
    (case a_pk => k_is)
    (case l_pk => k_is)
    (case c_pk => k_is)
    (case k_pk => k_is)
    (case a_mx => k_is)
    (case l_mx => k_is)
    (case c_mx => k_is)
    (case k_mx => k_is)
    (case a_sa => k_is)
    (case l_sa => k_is)
    (case c_sa => k_is)
    (case k_sa => k_is)
    (case a_lo => k_is)
    (case l_lo => k_is)
    (case c_lo => k_is)
    (case k_lo => k_is)
    (case a_la => k_is)
    (case l_la => k_is)
    (case c_la => k_is)
    (case k_la => k_is)
    (case a_os => k_is)
    (case l_os => k_is)
    (case c_os => k_is)
    (case k_os => k_is)
    (case a_oss => k_is)
    (case l_oss => k_is)
    (case c_oss => k_is)
    (case k_oss => k_is)
    (case a_oa => k_is)
    (case l_oa => k_is)
    (case c_oa => k_is)
    (case k_oa => k_is)
    (case a_ol => k_is)
    (case l_ol => k_is)
    (case c_ol => k_is)
    (case k_ol => k_is)
    (case a_oh => k_is)
    (case l_oh => k_is)
    (case c_oh => k_is)
    (case k_oh => k_is)
    (case a_ni => k_is)
    (case l_ni => k_is)
    (case c_ni => k_is)
    (case k_ni => k_is)
    (case a_gr => k_is)
    (case l_gr => k_is)
    (case c_gr => k_is)
    (case k_gr => k_is)
    (case a_gc => k_is)
    (case l_gc => k_is)
    (case c_gc => k_is)
    (case k_gc => k_is)
    (case a_gg => k_is)
    (case l_gg => k_is)
    (case c_gg => k_is)
    (case k_gg => k_is)
    (case a_can => k_is)
    (case l_can => k_is)
    (case c_can => k_is)
    (case k_can => k_is)
    (case a_ch => k_is)
    (case l_ch => k_is)
    (case c_ch => k_is)
    (case k_ch => k_is)
    (case a_du => k_is)
    (case l_du => k_is)
    (case c_du => k_is)
    (case k_du => k_is)
    (case a_dn => k_is)
    (case l_dn => k_is)
    (case c_dn => k_is)
    (case k_dn => k_is)
    (case a_cr => k_is)
    (case l_cr => k_is)
    (case c_cr => k_is)
    (case k_cr => k_is)
    (case a_me => k_is)
    (case l_me => k_is)
    (case c_me => k_is)
    (case k_me => k_is)
    (case a_il => k_is)
    (case l_il => k_is)
    (case c_il => k_is)
    (case k_il => k_is)
    (case a_it => k_is)
    (case l_it => k_is)
    (case c_it => k_is)
    (case k_it => k_is)
    (case a_in_ => k_is)
    (case l_in_ => k_is)
    (case c_in_ => k_is)
    (case k_in_ => k_is)
    (case a_ll => k_is)
    (case l_ll => k_is)
    (case c_ll => k_is)
    (case k_ll => k_is)
    (case a_ap => k_is)
    (case l_ap => k_is)
    (case c_ap => k_is)
    (case k_ap => k_is)
    (case a_ac => k_is)
    (case l_ac => k_is)
    (case c_ac => k_is)
    (case k_ac => k_is)
    (case a_ng => k_is)
    (case l_ng => k_is)
    (case c_ng => k_is)
    (case k_ng => k_is)
    (case a_ig => k_is)
    (case l_ig => k_is)
    (case c_ig => k_is)
    (case k_ig => k_is)
    (case a_ne => k_is)
    (case l_ne => k_is)
    (case c_ne => k_is)
    (case k_ne => k_is)
    (case a_is_ => k_is)
    (case l_is_ => k_is)
    (case c_is_ => k_is)
    (case k_is_ => k_is)
    (case a_mb => k_is)
    (case l_mb => k_is)
    (case c_mb => k_is)
    (case k_mb => k_is)
    (case a_su => k_is)
    (case l_su => k_is)
    (case c_su => k_is)
    (case k_su => k_is)
    (case a_ts => k_is)
    (case l_ts => k_is)
    (case c_ts => k_is)
    (case k_ts => k_is)
    (case a_nsu => k_is)
    (case l_nsu => k_is)
    (case c_nsu => k_is)
    (case k_nsu => k_is)
    (case a_nr => k_is)
    (case l_nr => k_is)
    (case c_nr => k_is)
    (case k_nr => k_is)
    (case a_lp => k_is)
    (case l_lp => k_is)
    (case c_lp => k_is)
    (case k_lp => k_is)
    (case a_sah => k_is)
    (case l_sah => k_is)
    (case c_sah => k_is)
    (case k_sah => k_is)
    (case a_sc => k_is)
    (case l_sc => k_is)
    (case c_sc => k_is)
    (case k_sc => k_is)
    (case a_dh => k_is)
    (case l_dh => k_is)
    (case c_dh => k_is)
    (case k_dh => k_is)
    (case a_sf => k_is)
    (case l_sf => k_is)
    (case c_sf => k_is)
    (case k_sf => k_is)
    (case a_rf => k_is)
    (case l_rf => k_is)
    (case c_rf => k_is)
    (case k_rf => k_is)
    (case p_rf => k_is)
    (case q_rf => first | rfl | k_is)
    (case n_rf => first | rfl | exact rfl | decide +kernel | with_unfolding_all rfl)
    (case a_e5 => k_is)
    (case x_e5 => exact ⟨_, _, _, _, _, _, _, _, _, _, _, _, _, _, _, by k_is, by first | decide +kernel | rfl⟩)
    (case sa_e5 => k_is)
    (case ex_e5 => k_is)
    (case ty_e5 => k_is)
    (case kC_e5 => k_is)
    (case iC_e5 => k_is)
    (case l_e5 => k_is)
    (case c_e5 => k_is)
    (case k_e5 => k_is)
    (case tI_e5 => k_is)
    (case no_e5 => k_is)
    (case ga_e5 => k_is)
    (case gg_e5 => k_is)
    (case hd_e5 => k_is)
    (case a_e6 => k_is)
    (case x_e6 => exact ⟨_, _, _, _, _, _, _, _, _, _, _, _, _, _, _, by k_is, by first | decide +kernel | rfl⟩)
    (case sa_e6 => k_is)
    (case ex_e6 => k_is)
    (case ty_e6 => k_is)
    (case kC_e6 => k_is)
    (case iC_e6 => k_is)
    (case l_e6 => k_is)
    (case c_e6 => k_is)
    (case k_e6 => k_is)
    (case tI_e6 => k_is)
    (case no_e6 => k_is)
    (case ga_e6 => k_is)
    (case gg_e6 => k_is)
    (case hd_e6 => k_is)
    (case m55 => first | rfl | k_is)
    (case m65 => first | rfl | k_is)
    (case m66 => first | rfl | k_is)
    (case z_isinstance => k_is)
    (case z_len => k_is)
    (case z_list => k_is)
    (case z_tuple => k_is)
    (case z_int => k_is)
    (case z_bool => k_is)
    (case z_str => k_is)
    (case z_dict => k_is)
    (case z_all => k_is)
    (case z_sum => k_is)
    (case z_abs => k_is)
    (case z_range => k_is)
    (case z_enumerate => k_is)
    (case z_zip => k_is)
    (case z_sorted => k_is)
    (case z_set => k_is)
    (case z_repr => k_is)
    (case z_any => k_is)
    (case g_L => k_is)
    (case g_F => k_is)
    (case g_N => k_is)
    (case g_V => k_is)
