import PyProof.Rows.All
import Wide.All
import OpenK.AllK
import Wide.FinOn
import HandS.Call
import PyProof.Rows.MatchSeqLen
import HandS.ForMost
import HandS.IsInst
import HandS.Conv
import KE.DataMinMax
import KE.LtSeq
import HandS.SortKw
import HandS.TupLe
import HandS.TupAny
import KE.KeyNested
import KE.KDictKeyed
import HandS.Deep
import KE.KTup
import HandS.Rev
import HandS.DictComp
import KE.KDictCopyH
import HandS.SetFor
import HandS.Strs
import HandS.RevRange
import HandS.NoneIn
import HandS.Zip
import HandS.More
import HandS.WordsDict
import KE.SortData
import HandS.Sort
import HandS.Style
import HandS.Nested
import KE.GoesEnum
import HandS.AnyAll
import PyProof.TupleOfGen
import HandS.EndOwn
import PySem.Challenge.RW_pagewake_k51_operations_on_a_tree
set_option Elab.async false
set_option linter.all false
set_option maxRecDepth 100000
set_option maxHeartbeats 4000000
namespace Pw
open PySem PySem.Spec PyProof.Rows L2

/-- what a pattern binds: the slot, the value -/
abbrev Bnd := List (Nat × V)
def BndOk (X : Cx) (p : Nat × V) (q : Str × Value) : Prop := X.N[p.1]? = some q.1 ∧ X.env.scope.names.lookup q.1 = some .local ∧ RelV p.2 q.2
def RelB (X : Cx) : Option Bnd → Option (List (Str × Value)) → Prop
  | none, none => True
  | some bs, some us => Paired (BndOk X) bs us
  | _, _ => False
abbrev TPat := V → Hp → (Option Bnd → Prop) → Prop
abbrev TPats := List V → Hp → (Option Bnd → Prop) → Prop
structure PPat (X : Cx) (p : Pattern) (t : TPat) : Prop where
  run : ∀ (pins : List (Addr × Obj)) (s : Shared) (σ : L2.St) (H : Hp) (v : V) (u : Value) (Q : Option Bnd → Prop), Inv X pins σ H s → RelV v u → t v H Q →
    wpAny (model X.prog X.w) X.A (matchPattern p X.env u) (fun r s' => ∃ b, Inv X pins σ H s' ∧ RelB X b r ∧ Q b) X.xe s
structure PPats (X : Cx) (ps : List Pattern) (t : TPats) : Prop where
  run : ∀ (pins : List (Addr × Obj)) (s : Shared) (σ : L2.St) (H : Hp) (vs : List V) (us : List Value) (Q : Option Bnd → Prop), Inv X pins σ H s → Vals vs us → t vs H Q →
    wpAny (model X.prog X.w) X.A (matchEach ps X.env us) (fun r s' => ∃ b, Inv X pins σ H s' ∧ RelB X b r ∧ Q b) X.xe s
theorem Paired.appendP {α β : Type} {F : α → β → Prop} : ∀ {a : List α} {b : List β} {c : List α} {d : List β}, Paired F a b → Paired F c d → Paired F (a ++ c) (b ++ d)
  | _, _, _, _, .nil, q => q
  | _, _, _, _, .cons r t, q => .cons r (Paired.appendP t q)
section
variable {X : Cx}
def tPName (i : Nat) : TPat := fun v _ Q => Q (some [(i, v)])
theorem pp_name (i : Nat) {x : Str} {pos : Pos} (hN : X.N[i]? = some x := by rfl) (hx : X.env.scope.names.lookup x = some .local := by rfl) : PPat X (.MatchAs none (some x) pos) (tPName i) := by
  refine ⟨fun pins s σ H v u Q I r h => ?_⟩
  exact wpAny_matchPattern_Capture ⟨some [(i, v)], I, (show Paired (BndOk X) [(i, v)] [(x, u)] from .cons ⟨hN, hx, r⟩ .nil), h⟩
def tPAny : TPat := fun _ _ Q => Q (some [])
theorem pp_any {pos : Pos} : PPat X (.MatchAs none none pos) tPAny := by
  refine ⟨fun pins s σ H v u Q I r h => ?_⟩
  exact wpAny_matchPattern_Capture ⟨some [], I, (show Paired (BndOk X) [] [] from .nil), h⟩
/-- a written text -/
def tPStr (x : Str) : TPat := fun v _ Q => ∃ z, v = .str z ∧ Q (if z = x then some [] else none)
theorem pp_str {x : Str} {j : Nat} {p1 pos : Pos} : PPat X (.MatchValue (.Constant (.str x) j p1) pos) (tPStr x) := by
  refine ⟨fun pins s σ H v u Q I r h => ?_⟩
  obtain ⟨z, rfl, q⟩ := h
  obtain ⟨t, rfl⟩ := r
  refine wpAny_matchPattern_Value (Calls.Constant_str (PyProof.Rows.eq_str (wpAny_truthy_bool ?_)))
  have I' := I.tok (s.toks + 1)
  by_cases e : z = x
  · subst e
    have e2 : (z == z) = true := by simp
    rw [if_pos e2]
    rw [if_pos rfl] at q
    exact ⟨some [], I', (show Paired (BndOk X) [] [] from .nil), q⟩
  · have e2 : ¬ (z == x) = true := fun h => e (by simpa using h)
    rw [if_neg e2]
    rw [if_neg e] at q
    exact ⟨none, I', trivial, q⟩
def tPNil : TPats := fun _ _ Q => Q (some [])
theorem pps_nil' : PPats X [] tPNil := ⟨fun pins s σ H vs us Q I r h => wpAny_matchEach_nil ⟨some [], I, (show Paired (BndOk X) [] [] from .nil), h⟩⟩
def tPCons (t : TPat) (u : TPats) : TPats := fun vs H Q => ∃ v r, vs = v :: r ∧ t v H fun b => match b with
  | none => Q none
  | some bs => u r H fun c => match c with
    | none => Q none
    | some cs => Q (some (bs ++ cs))
theorem pps_cons' {p : Pattern} {ps : List Pattern} {t : TPat} {u : TPats} (h1 : PPat X p t) (h2 : PPats X ps u) (hp : p.isStar = false := by rfl) : PPats X (p :: ps) (tPCons t u) := by
  refine ⟨fun pins s σ H vs us Q I r h => ?_⟩
  obtain ⟨v, w, rfl, h⟩ := h
  cases r with
  | cons r rr =>
    refine wpAny_matchEach_cons (thn (h1.run pins s σ H _ _ _ I r h) fun a s1 ⟨b, I1, rb, q⟩ => ?_) hp
    cases b with
    | none =>
      cases a with
      | none => exact ⟨none, I1, trivial, q⟩
      | some us => exact rb.elim
    | some bs =>
      cases a with
      | none => exact rb.elim
      | some us =>
        refine thn (h2.run pins s1 σ H _ _ _ I1 rr q) fun a2 s2 ⟨c, I2, rc, q2⟩ => ?_
        cases c with
        | none =>
          cases a2 with
          | none => exact ⟨none, I2, trivial, q2⟩
          | some _ => exact rc.elim
        | some cs =>
          cases a2 with
          | none => exact rc.elim
          | some ws => exact ⟨some (bs ++ cs), I2, Paired.appendP rb rc, q2⟩
/-- a sequence pattern at a tuple -/
def tPSeq (K : PySem.W.Frag) (n : Nat) (t : TPats) : TPat := fun v H Q => ∃ a xs, v = .ref a ∧ SqT K H a xs ∧ if xs.length = n then t xs H Q else Q none
theorem pp_seq {ps : List Pattern} {pos : Pos} {t : TPats} {n : Nat} (hc : X.calm = true) (h : PPats X ps t) (hn : ps.length = n := by rfl) (hstar : ps.findIdx? (·.isStar) = none := by rfl)
    (hwild : (ps.all fun p => p.isWildcard || (p.isStar && p.names.isEmpty)) = false := by rfl) : PPat X (.MatchSequence ps pos) (tPSeq X.K n t) := by
  refine ⟨fun pins s σ H v u Q I r hw => ?_⟩
  obtain ⟨a, xs, rfl, hq, hw⟩ := hw
  obtain rfl : u = Value.ref a := r
  obtain ⟨its, rv, ht, hz⟩ := I.tuple hq
  have el := rv.length
  have hfit : ((its.toArray.size : Nat) : Int) < 2 ^ 63 := by
    have hs : sizeLine ≤ 2 ^ 62 := by decide
    simp only [List.size_toArray]
    omega
  by_cases e : xs.length = n
  · rw [if_pos e] at hw
    have e2 : its.toArray.size = ps.length := by simp only [List.size_toArray]; omega
    refine matchSeq_tuple_hit ht hfit e2 ?_ hstar hwild
    rw [← e2]
    refine unpackItems_tuple (I.ok.hd hc) (by exact ht) fun h' hx => ?_
    have I1 : Inv X pins σ H { s with heap := h', toks := s.toks + 1 + 1 } := I.kept fun b o q => hx b o (Nat.ne_of_lt (Heap.lt_size q)) q
    exact h.run pins _ σ H xs _ Q I1 (by simpa using rv) hw
  · rw [if_neg e] at hw
    have e2 : its.toArray.size ≠ ps.length := by simp only [List.size_toArray]; omega
    exact matchSeq_tuple_miss ht hfit e2 ⟨none, I.tok _, trivial, hw⟩ hstar hwild
/-! ### cases -/
abbrev TCs := V → Ends → L2.St → Hp → Prop
structure PCs (X : Cx) (cs : List MatchCase) (t : TCs) : Prop where
  run : ∀ (first : Bool) (pins : List (Addr × Obj)) (s : Shared) (σ : L2.St) (H : Hp) (D : Ends) (v : V) (u : Value), Inv X pins σ H s → RelV v u → t v D σ H →
    wpAny (model X.prog X.w) X.A (matchCases cs X.env u first) (SP X pins D) X.xe s
def setAll (σ : L2.St) : Bnd → L2.St
  | [] => σ
  | p :: r => setAll (σ.set p.1 (some p.2)) r
def tCsNil : TCs := fun _ D σ H => D.nx σ H
theorem pcs_nil : PCs X [] tCsNil := ⟨fun _ pins s σ H D v u I r h => wpAny_matchCases_nil ⟨σ, H, I, h⟩⟩
def tCase (t : TPat) (tb : TS) (tr : TCs) : TCs := fun v D σ H => t v H fun b => match b with
  | none => tr v D σ H
  | some bs => tb D (setAll σ bs) H
theorem assign_bnd (hN : X.N.Nodup) : ∀ {bs : Bnd} {us : List (Str × Value)} {pins : List (Addr × Obj)} {s : Shared} {σ : L2.St} {H : Hp} {Q : Unit → Shared → Prop}, Paired (BndOk X) bs us → Inv X pins σ H s → (∀ s', Inv X pins (setAll σ bs) H s' → Q () s') →
    wpAny (model X.prog X.w) X.A (assignInOrder (us.map fun (n, _) => bindName X.env n) (us.map (·.2))) Q X.xe s
  | _, _, _, s, _, _, _, .nil, I, h => assignInOrder_nil (h s I)
  | p :: bs, q :: us, pins, s, σ, H, Q, .cons r t, I, h => by
    obtain ⟨h1, h2, h3⟩ := r
    exact assignInOrder_cons (wpAny_bindName (store_ok I hN h1 (.inl h2) h3 (fun s' I' => assign_bnd hN t I' fun s2 I2 => h s2 I2) (.inr h2)))
theorem pcs_cons {p : Pattern} {body : List Stmt} {rest : List MatchCase} {t : TPat} {tb : TS} {tr : TCs} (hN : X.N.Nodup) (hp : PPat X p t) (hb : PSs X body tb) (hr : PCs X rest tr) : PCs X (⟨p, none, body⟩ :: rest) (tCase t tb tr) := by
  refine ⟨fun first pins s σ H D v u I r h => ?_⟩
  refine wpAny_matchCases_cons (thn (hp.run pins s σ H v u _ I r h) fun a s1 ⟨b, I1, rb, q⟩ => ?_)
  cases b with
  | none =>
    cases a with
    | none => exact hr.run false pins s1 σ H D v u I1 r q
    | some _ => exact rb.elim
  | some bs =>
    cases a with
    | none => exact rb.elim
    | some us => exact assign_bnd hN rb I1 fun s2 I2 => hb.run pins s2 _ H D I2 q
def tMatch (te : TE) (tc : TCs) : TS := fun D σ H => te σ H fun x H1 => tc x D σ H1
theorem ps_match {e : Expr} {cs : List MatchCase} {pos : Pos} {te : TE} {tc : TCs} (he : PE X e te) (hc : PCs X cs tc) : PS X (.Match e cs pos) (tMatch te tc) := by
  refine ⟨fun pins s σ H D I h => ?_⟩
  exact wpAny_Match (thn (he.run pins s σ H _ I h) fun v s1 ⟨x, H1, I1, r1, q1⟩ => hc.run true pins s1 σ H1 D x v I1 r1 q1)
end
end Pw
namespace Pw
open PySem PySem.Spec PyProof.Rows L2
/-! ### heaps -/
/-- all but S is as it was; tuples never change -/
structure Oth (S : List Addr) (H H' : Hp) : Prop where
  keep : ∀ a o, a ∉ S → H a = some o → H' a = some o
  tup : ∀ a xs, H a = some (.tup xs) → H' a = some (.tup xs)
section
variable {S S' : List Addr} {H H' H2 : Hp} {p b : Addr} {o : HO} {xs : List V}
theorem Oth.refl : Oth S H H := ⟨fun _ _ _ h => h, fun _ _ h => h⟩
theorem Oth.trans (x : Oth S H H') (y : Oth S H' H2) : Oth S H H2 := ⟨fun a o n h => y.keep a o n (x.keep a o n h), fun a xs h => y.tup a xs (x.tup a xs h)⟩
theorem Oth.new (h : H p = none) : Oth S H (upd H p o) := ⟨fun a o' _ q => by rw [upd_ne (ne_of_none q h)]; exact q, fun a xs q => by rw [upd_ne (ne_of_none q h)]; exact q⟩
theorem Oth.put (hb : b ∈ S) (h : H b = some (.lst xs)) : Oth S H (upd H b o) :=
  ⟨fun a o' n q => by rw [upd_ne (fun e => n (by rw [e]; exact hb))]; exact q, fun a xs q => by rw [upd_ne (ne_of q h (by intro z; cases z))]; exact q⟩
theorem Oth.mono (x : Oth S H H') (h : ∀ a ∈ S, a ∈ S') : Oth S' H H' := ⟨fun a o n => x.keep a o fun z => n (h a z), x.tup⟩
/-- what was not there may be forgotten -/
theorem Oth.drop (x : Oth (p :: S) H H') (h : H p = none) : Oth S H H' :=
  ⟨fun a o n q => x.keep a o (fun z => (List.mem_cons.mp z).elim (fun e => by rw [e, h] at q; cases q) n) q, x.tup⟩
theorem Oth.drop2 (x : Oth (b :: p :: S) H H') (h : H p = none) : Oth (b :: S) H H' :=
  Oth.drop (p := p) (x.mono fun a z => by simp only [List.mem_cons] at z ⊢; rcases z with z | z | z <;> simp [z]) h
theorem Oth.ne (x : Oth S H H') (h : H' p = none) (hb : b ∉ S) (q : H b = some o) : b ≠ p := ne_of_none (x.keep b o hb q) h
theorem Oth.lst (x : Oth S H H') (hb : b ∉ S) (q : H b = some (.lst xs)) : H' b = some (.lst xs) := x.keep b _ hb q
theorem Oth.sqT {K : PySem.W.Frag} (x : Oth S H H') (h : H b = some (.tup xs)) : SqT K H' b xs := SqT.of (x.tup b xs h)
end
/-! ### data that never change -/
inductive T where
  | non | bl (b : Bool) | int (i : Int) | str (s : Str) | tup (ts : List T)
inductive IsT (H : Hp) : T → V → Prop
  | non : IsT H .non .non
  | bl (b : Bool) : IsT H (.bl b) (.bl b)
  | int (i : Int) : IsT H (.int i) (.int i)
  | str (s : Str) : IsT H (.str s) (.str s)
  | tup {a : Addr} {xs : List V} {ts : List T} : H a = some (.tup xs) → xs.length = ts.length → (∀ (i : Nat) (t : T) (x : V), ts[i]? = some t → xs[i]? = some x → IsT H t x) → IsT H (.tup ts) (.ref a)
section
variable {H H' : Hp} {S : List Addr} {a : Addr} {xs : List V} {ts : List T} {t : T} {v : V}
theorem IsT.oth (h : IsT H t v) (o : Oth S H H') : IsT H' t v := by
  induction h with
  | non => exact .non
  | bl b => exact .bl b
  | int i => exact .int i
  | str s => exact .str s
  | tup e l _ ih => exact .tup (o.tup _ _ e) l ih
theorem paired_of : ∀ {ts : List T} {xs : List V}, xs.length = ts.length → (∀ (i : Nat) (t : T) (x : V), ts[i]? = some t → xs[i]? = some x → IsT H t x) → Paired (IsT H) ts xs
  | [], [], _, _ => .nil
  | [], _ :: _, l, _ => by cases l
  | _ :: _, [], l, _ => by cases l
  | t :: ts, x :: xs, l, h => .cons (h 0 t x rfl rfl) (paired_of (Nat.succ.inj l) fun i t' x' e1 e2 => h (i + 1) t' x' e1 e2)
theorem paired_get : ∀ {ts : List T} {xs : List V}, Paired (IsT H) ts xs → xs.length = ts.length ∧ ∀ (i : Nat) (t : T) (x : V), ts[i]? = some t → xs[i]? = some x → IsT H t x
  | _, _, .nil => ⟨rfl, fun i t x e => by simp at e⟩
  | _, _, .cons r q => by
    obtain ⟨l, h⟩ := paired_get q
    refine ⟨congrArg (· + 1) l, fun i t x e1 e2 => ?_⟩
    cases i with
    | zero => cases e1; cases e2; exact r
    | succ i => exact h i t x e1 e2
theorem IsT.inv (h : IsT H (.tup ts) v) : ∃ a xs, v = .ref a ∧ H a = some (.tup xs) ∧ Paired (IsT H) ts xs := by
  cases h with
  | tup e l q => exact ⟨_, _, rfl, e, paired_of l q⟩
theorem IsT.mk (e : H a = some (.tup xs)) (q : Paired (IsT H) ts xs) : IsT H (.tup ts) (.ref a) := .tup e (paired_get q).1 (paired_get q).2
theorem paired_oth : ∀ {ts : List T} {xs : List V}, Paired (IsT H) ts xs → Oth S H H' → Paired (IsT H') ts xs
  | _, _, .nil, _ => .nil
  | _, _, .cons r q, o => .cons (r.oth o) (paired_oth q o)
theorem paired_app {us : List T} {ys : List V} (p : Paired (IsT H) ts xs) (q : Paired (IsT H) us ys) : Paired (IsT H) (ts ++ us) (xs ++ ys) := Paired.appendP p q
theorem paired_int : ∀ {ns : List Int} {xs : List V}, Paired (IsT H) (ns.map T.int) xs → xs = ns.map V.int
  | [], _, .nil => rfl
  | n :: ns, _, .cons r q => by
    cases r
    rw [paired_int q]
    rfl
theorem int_paired : ∀ (ns : List Int), Paired (IsT H) (ns.map T.int) (ns.map V.int)
  | [] => .nil
  | n :: ns => .cons (.int n) (int_paired ns)
theorem IsT.ints {ns : List Int} (h : IsT H (.tup (ns.map T.int)) v) : ∃ a, v = .ref a ∧ H a = some (.tup (ns.map V.int)) := by
  obtain ⟨a, xs, rfl, e, p⟩ := h.inv
  rw [paired_int p] at e
  exact ⟨a, rfl, e⟩
theorem IsT.of_int {i : Int} (h : IsT H (.int i) v) : v = .int i := by cases h; rfl
theorem IsT.of_str {s : Str} (h : IsT H (.str s) v) : v = .str s := by cases h; rfl
theorem IsT.of_non (h : IsT H .non v) : v = .non := by cases h; rfl
theorem IsT.inv1 {t1 : T} (h : IsT H (.tup [t1]) v) : ∃ a x1, v = .ref a ∧ H a = some (.tup [x1]) ∧ IsT H t1 x1 := by
  obtain ⟨a, xs, rfl, e, p⟩ := h.inv
  cases p with | cons p1 p => cases p; exact ⟨a, _, rfl, e, p1⟩
theorem IsT.inv2 {t1 t2 : T} (h : IsT H (.tup [t1, t2]) v) : ∃ a x1 x2, v = .ref a ∧ H a = some (.tup [x1, x2]) ∧ IsT H t1 x1 ∧ IsT H t2 x2 := by
  obtain ⟨a, xs, rfl, e, p⟩ := h.inv
  cases p with | cons p1 p => cases p with | cons p2 p => cases p; exact ⟨a, _, _, rfl, e, p1, p2⟩
theorem IsT.inv3 {t1 t2 t3 : T} (h : IsT H (.tup [t1, t2, t3]) v) : ∃ a x1 x2 x3, v = .ref a ∧ H a = some (.tup [x1, x2, x3]) ∧ IsT H t1 x1 ∧ IsT H t2 x2 ∧ IsT H t3 x3 := by
  obtain ⟨a, xs, rfl, e, p⟩ := h.inv
  cases p with | cons p1 p => cases p with | cons p2 p => cases p with | cons p3 p => cases p; exact ⟨a, _, _, _, rfl, e, p1, p2, p3⟩
theorem IsT.inv4 {t1 t2 t3 t4 : T} (h : IsT H (.tup [t1, t2, t3, t4]) v) : ∃ a x1 x2 x3 x4, v = .ref a ∧ H a = some (.tup [x1, x2, x3, x4]) ∧ IsT H t1 x1 ∧ IsT H t2 x2 ∧ IsT H t3 x3 ∧ IsT H t4 x4 := by
  obtain ⟨a, xs, rfl, e, p⟩ := h.inv
  cases p with | cons p1 p => cases p with | cons p2 p => cases p with | cons p3 p => cases p with | cons p4 p => cases p; exact ⟨a, _, _, _, _, rfl, e, p1, p2, p3, p4⟩
theorem IsT.inv5 {t1 t2 t3 t4 t5 : T} (h : IsT H (.tup [t1, t2, t3, t4, t5]) v) : ∃ a x1 x2 x3 x4 x5, v = .ref a ∧ H a = some (.tup [x1, x2, x3, x4, x5]) ∧ IsT H t1 x1 ∧ IsT H t2 x2 ∧ IsT H t3 x3 ∧ IsT H t4 x4 ∧ IsT H t5 x5 := by
  obtain ⟨a, xs, rfl, e, p⟩ := h.inv
  cases p with | cons p1 p => cases p with | cons p2 p => cases p with | cons p3 p => cases p with | cons p4 p => cases p with | cons p5 p => cases p; exact ⟨a, _, _, _, _, _, rfl, e, p1, p2, p3, p4, p5⟩
theorem IsT.mk1 {t1 : T} {x1 : V} (e : H a = some (.tup [x1])) (p1 : IsT H t1 x1) : IsT H (.tup [t1]) (.ref a) := .mk e (.cons p1 .nil)
theorem IsT.mk2 {t1 t2 : T} {x1 x2 : V} (e : H a = some (.tup [x1, x2])) (p1 : IsT H t1 x1) (p2 : IsT H t2 x2) : IsT H (.tup [t1, t2]) (.ref a) := .mk e (.cons p1 (.cons p2 .nil))
theorem IsT.mk3 {t1 t2 t3 : T} {x1 x2 x3 : V} (e : H a = some (.tup [x1, x2, x3])) (p1 : IsT H t1 x1) (p2 : IsT H t2 x2) (p3 : IsT H t3 x3) : IsT H (.tup [t1, t2, t3]) (.ref a) := .mk e (.cons p1 (.cons p2 (.cons p3 .nil)))
theorem IsT.mk4 {t1 t2 t3 t4 : T} {x1 x2 x3 x4 : V} (e : H a = some (.tup [x1, x2, x3, x4])) (p1 : IsT H t1 x1) (p2 : IsT H t2 x2) (p3 : IsT H t3 x3) (p4 : IsT H t4 x4) : IsT H (.tup [t1, t2, t3, t4]) (.ref a) := .mk e (.cons p1 (.cons p2 (.cons p3 (.cons p4 .nil))))
theorem IsT.mk5 {t1 t2 t3 t4 t5 : T} {x1 x2 x3 x4 x5 : V} (e : H a = some (.tup [x1, x2, x3, x4, x5])) (p1 : IsT H t1 x1) (p2 : IsT H t2 x2) (p3 : IsT H t3 x3) (p4 : IsT H t4 x4) (p5 : IsT H t5 x5) : IsT H (.tup [t1, t2, t3, t4, t5]) (.ref a) := .mk e (.cons p1 (.cons p2 (.cons p3 (.cons p4 (.cons p5 .nil)))))
end
/-! ### ways that meet behind a statement -/
section
variable {X : Cx} {st : Stmt} {rest : List Stmt} {t u : TS}
def tCut (t u : TS) : TS := fun D σ H => ∃ Mid : L2.St → Hp → Prop, t { D with nx := Mid } σ H ∧ ∀ σ' H', Mid σ' H' → u D σ' H'
theorem pss_cut (h1 : PS X st t) (h2 : PSs X rest u) : PSs X (st :: rest) (tCut t u) := by
  refine ⟨fun pins s σ H D I h => ?_⟩
  obtain ⟨Mid, h, hm⟩ := h
  refine wpAny_execs_cons (thn (h1.run pins s σ H { D with nx := Mid } I h) fun f s1 q => ?_)
  cases f with
  | next =>
    obtain ⟨σ', H', I', q⟩ := q
    exact h2.run pins s1 σ' H' D I' (hm _ _ q)
  | ret v => exact q
  | brk => exact q
  | cont => exact q
end
theorem Oth.sqL {K : PySem.W.Frag} {H H' : Hp} {S : List Addr} {a : Addr} {xs : List V} (x : Oth S H H') (n : a ∉ S) (h : SqL K H a xs) : SqL K H' a xs := by
  rcases h with (h | ⟨o, h⟩) | h
  · exact .inl (.inl (x.keep _ _ n h))
  · exact .inl (.inr ⟨o, x.keep _ _ n h⟩)
  · exact .inr h
/-! ### cases of a match -/
section
variable {K : PySem.W.Frag} {H : Hp} {a : Addr} {n : Nat} {z x : Str} {r : List V} {u : TPats} {tb : TS} {tr : TCs} {D : Ends} {σ : L2.St}
theorem case_skip (h : SqT K H a (.str z :: r)) (hz : z ≠ x) (q : tr (.ref a) D σ H) : tCase (tPSeq K n (tPCons (tPStr x) u)) tb tr (.ref a) D σ H := by
  refine ⟨a, _, rfl, h, ?_⟩
  by_cases e : (V.str z :: r).length = n
  · rw [if_pos e]
    refine ⟨_, _, rfl, z, rfl, ?_⟩
    rw [if_neg hz]
    exact q
  · rw [if_neg e]
    exact q
theorem case_len (h : SqT K H a r) (hz : r.length ≠ n) (q : tr (.ref a) D σ H) : tCase (tPSeq K n u) tb tr (.ref a) D σ H := by
  refine ⟨a, _, rfl, h, ?_⟩
  rw [if_neg hz]
  exact q
theorem case_hit (h : SqT K H a (.str x :: r)) (hl : r.length + 1 = n) (q : u r H fun c => match c with
    | none => tr (.ref a) D σ H
    | some bs => tb D (setAll σ bs) H) : tCase (tPSeq K n (tPCons (tPStr x) u)) tb tr (.ref a) D σ H := by
  refine ⟨a, _, rfl, h, ?_⟩
  rw [if_pos (show (V.str x :: r).length = n from hl)]
  refine ⟨_, _, rfl, x, rfl, ?_⟩
  rw [if_pos rfl]
  exact q
end
end Pw
namespace Pw
def mx (pl : Int) : List Int → List Nat → Nat
  | p :: ps, l :: ls => if pl < p then max l (mx pl ps ls) else mx pl ps ls
  | _, _ => 0
def lens : List Int → List Nat
  | [] => []
  | p :: ps => (1 + mx p ps (lens ps)) :: lens ps
theorem lens_len : ∀ ps : List Int, (lens ps).length = ps.length
  | [] => rfl
  | p :: ps => by rw [lens, List.length_cons, List.length_cons, lens_len ps]
theorem lens_drop : ∀ (ps : List Int) (i : Nat), lens (ps.drop i) = (lens ps).drop i
  | [], i => by rw [List.drop_nil]; simp [lens]
  | p :: ps, 0 => rfl
  | p :: ps, i + 1 => by rw [List.drop_succ_cons, lens_drop ps i, lens, List.drop_succ_cons]
theorem mx_snoc (p : Int) : ∀ (ps : List Int) (ls : List Nat) (q : Int) (l : Nat), ps.length = ls.length → mx p (ps ++ [q]) (ls ++ [l]) = if p < q then max (mx p ps ls) l else mx p ps ls
  | [], [], q, l, _ => by
    show mx p [q] [l] = _
    simp only [mx]
    by_cases h : p < q
    · rw [if_pos h, if_pos h]; omega
    · rw [if_neg h, if_neg h]
  | a :: ps, b :: ls, q, l, h => by
    have ih := mx_snoc p ps ls q l (by simpa using h)
    show mx p (a :: (ps ++ [q])) (b :: (ls ++ [l])) = _
    simp only [mx, ih]
    split <;> split <;> omega
  | [], _ :: _, _, _, h => nomatch h
  | _ :: _, [], _, _, h => nomatch h
theorem mx_le (p : Int) : ∀ (ps : List Int) (ls : List Nat) (b : Nat), (∀ l ∈ ls, l ≤ b) → mx p ps ls ≤ b
  | [], _, b, _ => by simp [mx]
  | _ :: _, [], b, _ => by simp [mx]
  | a :: ps, l :: ls, b, h => by
    have ih := mx_le p ps ls b fun x hx => h x (List.mem_cons_of_mem _ hx)
    have h0 := h l List.mem_cons_self
    simp only [mx]
    split <;> omega
theorem lens_le : ∀ (ps : List Int), ∀ l ∈ lens ps, 1 ≤ l ∧ l ≤ ps.length
  | [], l, h => nomatch h
  | p :: ps, l, h => by
    rw [lens] at h
    rcases List.mem_cons.mp h with rfl | h
    · have := mx_le p ps (lens ps) ps.length fun l hl => (lens_le ps l hl).2
      rw [List.length_cons]; omega
    · have := lens_le ps l h
      rw [List.length_cons]; omega
/-- the greatest of the lengths, 0 for none -/
def top (ls : List Nat) : Nat := ls.foldr max 0
theorem top_mx (pl : Int) : ∀ (ps : List Int) (ls : List Nat), ps.length = ls.length → (∀ p ∈ ps, pl < p) → mx pl ps ls = top ls
  | [], [], _, _ => rfl
  | a :: ps, b :: ls, h, hp => by
    have ih := top_mx pl ps ls (by simpa using h) fun x hx => hp x (List.mem_cons_of_mem _ hx)
    simp only [mx, if_pos (hp a List.mem_cons_self), ih]
    rfl
  | [], _ :: _, h, _ => nomatch h
  | _ :: _, [], h, _ => nomatch h
theorem top_ge : ∀ (ls : List Nat), ∀ l ∈ ls, l ≤ top ls
  | b :: ls, l, h => by
    show l ≤ max b (top ls)
    rcases List.mem_cons.mp h with rfl | h
    · omega
    · have := top_ge ls l h; omega
theorem top_mem : ∀ (ls : List Nat), ls ≠ [] → top ls ∈ ls
  | [b], _ => by show max b 0 ∈ _; simp
  | b :: c :: ls, _ => by
    have ih := top_mem (c :: ls) (by simp)
    show max b (top (c :: ls)) ∈ _
    by_cases h : b ≤ top (c :: ls)
    · rw [Nat.max_eq_right h]; exact List.mem_cons_of_mem _ ih
    · rw [Nat.max_eq_left (by omega)]; exact List.mem_cons_self
/-- the row that is picked -/
def gr : Nat → Int → List Int → List Nat → Nat → List Nat
  | i, pl, p :: ps, l :: ls, left => if l = left ∧ pl < p then i :: gr (i + 1) p ps ls (left - 1) else gr (i + 1) pl ps ls left
  | _, _, _, _, _ => []
def Rise : Nat → Int → List Int → List Nat → Prop
  | _, _, [], r => r = []
  | i, pl, p :: ps, r => Rise (i + 1) pl ps r ∨ (pl < p ∧ ∃ r', r = i :: r' ∧ Rise (i + 1) p ps r')
def lexN : List Nat → List Nat → Bool
  | [], [] => false
  | [], _ :: _ => true
  | _ :: _, [] => false
  | x :: xs, y :: ys => if x = y then lexN xs ys else decide (x < y)
theorem lexN_irr : ∀ xs, lexN xs xs = false
  | [] => rfl
  | x :: xs => by rw [lexN, if_pos rfl]; exact lexN_irr xs
theorem lexN_asym : ∀ xs ys, lexN xs ys = true → lexN ys xs = false
  | [], [], h => nomatch h
  | [], _ :: _, _ => rfl
  | _ :: _, [], h => nomatch h
  | x :: xs, y :: ys, h => by
    rw [lexN] at h ⊢
    by_cases e : x = y
    · rw [if_pos e] at h; rw [if_pos e.symm]; exact lexN_asym xs ys h
    · rw [if_neg e] at h; rw [if_neg (Ne.symm e)]
      have := of_decide_eq_true h
      exact decide_eq_false (by omega)
theorem rise_ge : ∀ (ps : List Int) (i : Nat) (pl : Int) (r : List Nat), Rise i pl ps r → ∀ j ∈ r, i ≤ j
  | [], i, pl, r, h, j, hj => by
    rw [show r = [] from h] at hj; cases hj
  | p :: ps, i, pl, r, h, j, hj => by
    rcases h with h | ⟨_, r', rfl, h⟩
    · have := rise_ge ps _ _ r h j hj; omega
    · rcases List.mem_cons.mp hj with rfl | hj
      · omega
      · have := rise_ge ps _ _ r' h j hj; omega
theorem rise_len : ∀ (ps : List Int) (i : Nat) (pl : Int) (r : List Nat), Rise i pl ps r → r.length ≤ mx pl ps (lens ps)
  | [], i, pl, r, h => by rw [show r = [] from h]; simp
  | p :: ps, i, pl, r, h => by
    rw [lens]
    simp only [mx]
    rcases h with h | ⟨hp, r', rfl, h⟩
    · have := rise_len ps _ _ r h
      split <;> omega
    · have := rise_len ps _ _ r' h
      rw [if_pos hp, List.length_cons]; omega
theorem gr_ok : ∀ (ps : List Int) (i : Nat) (pl : Int) (left : Nat), left = mx pl ps (lens ps) →
    Rise i pl ps (gr i pl ps (lens ps) left) ∧ (gr i pl ps (lens ps) left).length = left ∧ ∀ r, Rise i pl ps r → r.length = left → gr i pl ps (lens ps) left = r ∨ lexN (gr i pl ps (lens ps) left) r = true
  | [], i, pl, left, h => by
    have : left = 0 := by rw [h]; simp [mx]
    subst this
    refine ⟨rfl, rfl, fun r hr _ => .inl ?_⟩
    rw [show r = [] from hr]; rfl
  | p :: ps, i, pl, left, h => by
    rw [lens] at h ⊢
    simp only [mx] at h
    simp only [gr]
    by_cases c : 1 + mx p ps (lens ps) = left ∧ pl < p
    · rw [if_pos c]
      obtain ⟨a, b, d⟩ := gr_ok ps (i + 1) p (left - 1) (by omega)
      refine ⟨.inr ⟨c.2, _, rfl, a⟩, by rw [List.length_cons, b]; omega, fun r hr hl => ?_⟩
      rcases hr with hr | ⟨_, r', rfl, hr⟩
      · cases r with
        | nil => simp at hl; omega
        | cons j r =>
          have := rise_ge ps _ _ _ hr j List.mem_cons_self
          refine .inr ?_
          rw [lexN, if_neg (by omega)]
          exact decide_eq_true (by omega)
      · rcases d r' hr (by rw [List.length_cons] at hl; omega) with e | e
        · exact .inl (by rw [e])
        · exact .inr (by rw [lexN, if_pos rfl]; exact e)
    · rw [if_neg c]
      have h' : left = mx pl ps (lens ps) := by
        by_cases hp : pl < p
        · rw [if_pos hp] at h
          have : 1 + mx p ps (lens ps) ≠ left := fun z => c ⟨z, hp⟩
          omega
        · rw [if_neg hp] at h; exact h
      obtain ⟨a, b, d⟩ := gr_ok ps (i + 1) pl left h'
      refine ⟨.inl a, b, fun r hr hl => ?_⟩
      rcases hr with hr | ⟨hp, r', rfl, hr⟩
      · exact d r hr hl
      · exfalso
        have := rise_len ps _ _ _ hr
        rw [if_pos hp] at h
        rw [List.length_cons] at hl
        exact c ⟨by omega, hp⟩
/-- all rows of the first k places -/
def okRow (f : Nat → Int) (k : Nat) (r : List Nat) : Bool := match r.getLast? with
  | none => true
  | some j => decide (f j < f k)
def rrows (f : Nat → Int) : Nat → List (List Nat)
  | 0 => [[]]
  | k + 1 => rrows f k ++ ((rrows f k).filter (okRow f k)).map (· ++ [k])
def Row (f : Nat → Int) (k : Nat) (r : List Nat) : Prop := r.Pairwise (fun a b => a < b ∧ f a < f b) ∧ ∀ a ∈ r, a < k
theorem eq_snoc {α : Type} (r : List α) : r = [] ∨ ∃ r' a, r = r' ++ [a] := by
  rcases List.eq_nil_or_concat r with h | ⟨r', a, h⟩
  · exact .inl h
  · exact .inr ⟨r', a, by rw [h, List.concat_eq_append]⟩
theorem rrows_mem (f : Nat → Int) : ∀ (k : Nat) (r : List Nat), r ∈ rrows f k ↔ Row f k r
  | 0, r => by
    refine ⟨fun h => ?_, fun h => ?_⟩
    · rw [List.mem_singleton.mp h]; exact ⟨.nil, fun a ha => nomatch ha⟩
    · cases r with
      | nil => exact List.mem_singleton.mpr rfl
      | cons a r => exact absurd (h.2 a List.mem_cons_self) (Nat.not_lt_zero a)
  | k + 1, r => by
    refine ⟨fun h => ?_, fun h => ?_⟩
    · rcases List.mem_append.mp h with h | h
      · have := (rrows_mem f k r).mp h
        exact ⟨this.1, fun a ha => Nat.lt_succ_of_lt (this.2 a ha)⟩
      · obtain ⟨r', hr', rfl⟩ := List.mem_map.mp h
        obtain ⟨m, ok⟩ := List.mem_filter.mp hr'
        have R := (rrows_mem f k r').mp m
        refine ⟨List.pairwise_append.mpr ⟨R.1, List.pairwise_singleton _ _, fun a ha b hb => ?_⟩, fun a ha => ?_⟩
        · rw [List.mem_singleton.mp hb]
          refine ⟨R.2 a ha, ?_⟩
          rcases eq_snoc r' with e | ⟨r2, c, e⟩
          · rw [e] at ha; cases ha
          · subst e
            have hc : f c < f k := by
              unfold okRow at ok
              rw [List.getLast?_concat] at ok
              exact of_decide_eq_true ok
            rcases List.mem_append.mp ha with ha | ha
            · have := ((List.pairwise_append.mp R.1).2.2 a ha c (by simp)).2
              omega
            · rw [List.mem_singleton.mp ha]; exact hc
        · rcases List.mem_append.mp ha with ha | ha
          · have := R.2 a ha; omega
          · rw [List.mem_singleton.mp ha]; omega
    · rcases eq_snoc r with e | ⟨r', c, e⟩
      · exact List.mem_append_left _ ((rrows_mem f k r).mpr ⟨h.1, fun a ha => by rw [e] at ha; cases ha⟩)
      · subst e
        obtain ⟨p1, _, p3⟩ := List.pairwise_append.mp h.1
        have hc := h.2 c (by simp)
        by_cases e : c = k
        · subst e
          refine List.mem_append_right _ (List.mem_map.mpr ⟨r', List.mem_filter.mpr ⟨(rrows_mem f c r').mpr ⟨p1, fun a ha => (p3 a ha c (by simp)).1⟩, ?_⟩, rfl⟩)
          unfold okRow
          rcases eq_snoc r' with e | ⟨r2, d, e⟩
          · rw [e]; rfl
          · subst e
            rw [List.getLast?_concat]
            exact decide_eq_true (p3 d (by simp) c (by simp)).2
        · refine List.mem_append_left _ ((rrows_mem f k _).mpr ⟨h.1, fun a ha => ?_⟩)
          rcases List.mem_append.mp ha with ha | ha
          · have := (p3 a ha c (by simp)).1; omega
          · rw [List.mem_singleton.mp ha]; omega
theorem rrows_len (f : Nat → Int) : ∀ k, (rrows f k).length ≤ 2 ^ k
  | 0 => Nat.le_refl _
  | k + 1 => by
    have ih := rrows_len f k
    have := List.length_filter_le (okRow f k) (rrows f k)
    rw [rrows, List.length_append, List.length_map, Nat.pow_succ]
    omega
theorem rrows_short (f : Nat → Int) : ∀ (k : Nat) (r : List Nat), r ∈ rrows f k → r.length ≤ k
  | 0, r, h => by rw [List.mem_singleton.mp h]; exact Nat.le_refl _
  | k + 1, r, h => by
    rcases List.mem_append.mp h with h | h
    · have := rrows_short f k r h; omega
    · obtain ⟨r', hr', rfl⟩ := List.mem_map.mp h
      have := rrows_short f k r' (List.mem_filter.mp hr').1
      rw [List.length_append, List.length_singleton]; omega
theorem rise_row (f : Nat → Int) : ∀ (ps : List Int) (i : Nat) (pl : Int) (r : List Nat), (∀ j x, ps[j]? = some x → x = f (i + j)) →
    (Rise i pl ps r ↔ (r.Pairwise (fun a b => a < b ∧ f a < f b) ∧ ∀ a ∈ r, i ≤ a ∧ a < i + ps.length ∧ pl < f a))
  | [], i, pl, r, _ => by
    refine ⟨fun h => ?_, fun h => ?_⟩
    · rw [show r = [] from h]; exact ⟨.nil, fun a ha => nomatch ha⟩
    · cases r with
      | nil => rfl
      | cons a r =>
        have := h.2 a List.mem_cons_self
        simp only [List.length_nil] at this
        omega
  | p :: ps, i, pl, r, hf => by
    have hp : p = f i := by simpa using hf 0 p rfl
    have hf' : ∀ j x, ps[j]? = some x → x = f (i + 1 + j) := fun j x h => by
      have := hf (j + 1) x (by simpa using h)
      rw [this]; congr 1; omega
    refine ⟨fun h => ?_, fun h => ?_⟩
    · rcases h with h | ⟨lt, r', rfl, h⟩
      · obtain ⟨a, b⟩ := (rise_row f ps _ _ r hf').mp h
        exact ⟨a, fun x hx => by have := b x hx; rw [List.length_cons]; exact ⟨by omega, by omega, this.2.2⟩⟩
      · obtain ⟨a, b⟩ := (rise_row f ps _ _ r' hf').mp h
        refine ⟨List.pairwise_cons.mpr ⟨fun x hx => ?_, a⟩, fun x hx => ?_⟩
        · have := b x hx
          exact ⟨by omega, by rw [← hp]; exact this.2.2⟩
        · rcases List.mem_cons.mp hx with rfl | hx
          · rw [List.length_cons, ← hp]; exact ⟨by omega, by omega, lt⟩
          · have := b x hx
            rw [List.length_cons]; exact ⟨by omega, by omega, by omega⟩
    · obtain ⟨a, b⟩ := h
      cases r with
      | nil => exact .inl ((rise_row f ps _ _ [] hf').mpr ⟨.nil, fun x hx => nomatch hx⟩)
      | cons c r =>
        obtain ⟨c1, c2⟩ := List.pairwise_cons.mp a
        have hc := b c List.mem_cons_self
        by_cases e : c = i
        · subst e
          refine .inr ⟨by rw [hp]; exact hc.2.2, r, rfl, (rise_row f ps _ _ r hf').mpr ⟨c2, fun x hx => ?_⟩⟩
          have h1 := c1 x hx
          have h2 := b x (List.mem_cons_of_mem _ hx)
          rw [List.length_cons] at h2
          exact ⟨by omega, by omega, by rw [hp]; exact h1.2⟩
        · refine .inl ((rise_row f ps _ _ (c :: r) hf').mpr ⟨a, fun x hx => ?_⟩)
          have h2 := b x hx
          rw [List.length_cons] at h2
          refine ⟨?_, by omega, h2.2.2⟩
          rcases List.mem_cons.mp hx with rfl | hx
          · omega
          · have := (c1 x hx).1; omega
/-- the better one of two rows -/
def better (r b : List Nat) : Bool := decide (b.length < r.length) || (decide (r.length = b.length) && lexN r b)
def bestOf : List Nat → List (List Nat) → List Nat
  | b, [] => b
  | b, r :: rs => bestOf (if better r b = true then r else b) rs
theorem bestOf_snoc : ∀ (rs : List (List Nat)) (b r : List Nat), bestOf b (rs ++ [r]) = if better r (bestOf b rs) = true then r else bestOf b rs
  | [], b, r => rfl
  | x :: rs, b, r => by
    show bestOf _ (rs ++ [r]) = _
    rw [bestOf_snoc rs]
    rfl
theorem best_is (g : List Nat) (G : List Nat → Prop) (hg : ∀ r, G r → r = g ∨ better g r = true) (hn : ∀ r, G r → better r g = false) :
    ∀ (rs : List (List Nat)) (b : List Nat), (∀ r ∈ rs, G r) → G b → (g ∈ rs ∨ b = g) → bestOf b rs = g
  | [], b, _, _, h => by
    rcases h with h | h
    · cases h
    · exact h
  | r :: rs, b, hr, hb, h => by
    show bestOf (if better r b = true then r else b) rs = g
    have Gr := hr r List.mem_cons_self
    have hr' : ∀ x ∈ rs, G x := fun x hx => hr x (List.mem_cons_of_mem _ hx)
    by_cases e : b = g
    · subst e
      rw [hn r Gr, if_neg Bool.false_ne_true]
      exact best_is b G hg hn rs b hr' hb (.inr rfl)
    · have hm := h.resolve_right e
      rcases List.mem_cons.mp hm with e2 | hm
      · subst e2
        have := (hg b hb).resolve_left e
        rw [if_pos this]
        exact best_is g G hg hn rs g hr' Gr (.inr rfl)
      · refine best_is g G hg hn rs _ hr' ?_ (.inl hm)
        split
        · exact Gr
        · exact hb
/-- the longest rising row of the places: the first one of all rows is the one that is picked -/
theorem longest_is (ps : List Int) (hp : ∀ p ∈ ps, -1 < p) :
    bestOf [] (rrows (fun j => ps.getD j 0) ps.length) = gr 0 (-1) ps (lens ps) (top (lens ps)) := by
  have ht : top (lens ps) = mx (-1) ps (lens ps) := (top_mx (-1) ps (lens ps) (lens_len ps).symm hp).symm
  obtain ⟨g1, g2, g3⟩ := gr_ok ps 0 (-1) (top (lens ps)) ht
  have hf : ∀ j x, ps[j]? = some x → x = (fun j => ps.getD j 0) (0 + j) := fun j x h => by
    simp only [Nat.zero_add, List.getD_eq_getElem?_getD, h, Option.getD_some]
  have eqv : ∀ r, Row (fun j => ps.getD j 0) ps.length r ↔ Rise 0 (-1) ps r := fun r => by
    refine Iff.trans ?_ (rise_row (fun j => ps.getD j 0) ps 0 (-1) r hf).symm
    refine ⟨fun h => ⟨h.1, fun a ha => ⟨Nat.zero_le _, by have := h.2 a ha; omega, ?_⟩⟩, fun h => ⟨h.1, fun a ha => by have := (h.2 a ha).2.1; omega⟩⟩
    have ha' := h.2 a ha
    show -1 < ps.getD a 0
    rw [List.getD_eq_getElem?_getD, List.getElem?_eq_getElem ha', Option.getD_some]
    exact hp _ (List.getElem_mem ha')
  refine best_is _ (Rise 0 (-1) ps) (fun r hr => ?_) (fun r hr => ?_) _ _ (fun r hr => (eqv r).mp ((rrows_mem _ _ r).mp hr)) ((eqv []).mp ⟨.nil, fun a ha => nomatch ha⟩) (.inl ((rrows_mem _ _ _).mpr ((eqv _).mpr g1)))
  · have hl := rise_len ps _ _ r hr
    by_cases e : r.length = top (lens ps)
    · rcases g3 r hr e with e1 | e1
      · exact .inl e1.symm
      · refine .inr ?_
        unfold better
        rw [g2, decide_eq_true e.symm, e1]; simp
    · refine .inr ?_
      unfold better
      rw [g2, decide_eq_true (show r.length < top (lens ps) by omega)]; rfl
  · have hl := rise_len ps _ _ r hr
    unfold better
    rw [g2, decide_eq_false (show ¬ top (lens ps) < r.length by omega)]
    by_cases e : r.length = top (lens ps)
    · rcases g3 r hr e with e1 | e1
      · rw [← e1, lexN_irr]; simp
      · rw [lexN_asym _ _ e1]; simp
    · rw [decide_eq_false e]; rfl
end Pw
namespace Pw
open PySem PySem.Spec PyProof.Rows L2
theorem depth_ints : ∀ ns : List Int, PyData.depthAll (ns.map PyData.int) ≤ 1
  | [] => by decide
  | n :: ns => by
    have := depth_ints ns
    rw [List.map_cons, PyData.depthAll]
    have : PyData.depth (.int n) ≤ 1 := by rw [PyData.depth]; decide
    omega
theorem alike_ints (ns : List Int) : PySem.W.AlikeAll (ns.map PyData.int) := by
  refine ⟨fun x hx y hy => ?_, fun x hx => ?_⟩
  · obtain ⟨a, _, rfl⟩ := List.mem_map.mp hx
    obtain ⟨b, _, rfl⟩ := List.mem_map.mp hy
    rfl
  · obtain ⟨a, _, rfl⟩ := List.mem_map.mp hx
    exact fun h => nomatch h
def maxO : Int → List Int → Int
  | d, [] => d
  | _, n :: r => r.foldl max n
def rMaxD (K : PySem.W.Frag) : List V → List V → Hp → VK → Prop := fun vs zs H Q => ∃ (a : Addr) (ns : List Int) (d : Int), vs = [V.ref a] ∧ zs = [V.int d] ∧ SqL K H a (ns.map V.int) ∧ Q (.int (maxO d ns)) H
section
variable {X : Cx}
theorem cr_maxD (hc : X.calm = true) (hu : X.A.units + 20 < cLine) : CallRK X (.builtin "max") [Str.ofString "default"] (rMaxD X.K) := by
  intro pins s σ H vs zs us ws Q I r rz h
  obtain ⟨a, ns, d, rfl, rfl, hs, q⟩ := h
  obtain rfl := Vals.ref1 r
  obtain ⟨w1, rfl, e1⟩ := vals1 rz
  obtain ⟨t, rfl⟩ := (show ∃ t, w1 = Value.int d t from e1)
  obtain ⟨its, rv, hl, hz⟩ := I.list hs
  have hi : IntsAre its ns := rv.ints
  have hd := depth_ints ns
  refine PySem.W.max_list_default (xs := ns.map PyData.int) (I.ok.hd hc) hl.isList (ints_readAll s.heap hi) (alike_ints ns) (by omega) (fun e h' tk hk => ?_) (fun y ys i v h' tk bs e hv rd hk => ?_)
  · have : ns = [] := List.map_eq_nil_iff.mp e
    subst this
    exact ⟨.int d, H, I.kept hk, ⟨t, rfl⟩, q⟩
  · cases ns with
    | nil => cases e
    | cons n r =>
      rw [List.map_cons] at e
      cases e
      rw [PySem.W.maxD_ints] at rd
      cases rd
      exact ⟨.int _, H, I.kept hk, ⟨_, rfl⟩, q⟩
/-- xs < ys of lists of ints -/
def ltI : List Int → List Int → Bool
  | [], [] => false
  | [], _ :: _ => true
  | _ :: _, [] => false
  | x :: xs, y :: ys => if x = y then ltI xs ys else decide (x < y)
def rLtL (K : PySem.W.Frag) : R2 := fun x y H Q => ∃ (a b : Addr) (ns ms : List Int), x = .ref a ∧ y = .ref b ∧ SqL K H a (ns.map V.int) ∧ SqL K H b (ms.map V.int) ∧ Q (.bl (ltI ns ms)) H
theorem ltI_first (N M : List Int) : ∀ (n m : List Int) (i : Nat), N.length = i + n.length → M.length = i + m.length → (∀ j, N.getD (i + j) 0 = n.getD j 0) → (∀ j, M.getD (i + j) 0 = m.getD j 0) →
    SeqAt.firstLt (fun j => decide (N.getD j 0 = M.getD j 0)) (fun j => decide (N.getD j 0 < M.getD j 0)) (decide (N.length < M.length)) (List.range' i (min n.length m.length)) = ltI n m
  | [], m, i, hn, hm, _, _ => by
    rw [List.length_nil, Nat.zero_min]
    show decide (N.length < M.length) = _
    rw [hn, hm]
    cases m with
    | nil => exact decide_eq_false (Nat.lt_irrefl _)
    | cons y ys => exact decide_eq_true (by simp)
  | x :: xs, [], i, hn, hm, _, _ => by
    rw [List.length_nil, Nat.min_zero]
    show decide (N.length < M.length) = _
    rw [hn, hm]
    exact decide_eq_false (by simp)
  | x :: xs, y :: ys, i, hn, hm, eN, eM => by
    rw [List.length_cons, List.length_cons, Nat.succ_min_succ]
    show (if decide (N.getD i 0 = M.getD i 0) = true then SeqAt.firstLt _ _ _ (List.range' (i + 1) _) else decide (N.getD i 0 < M.getD i 0)) = _
    have e1 : N.getD i 0 = x := by simpa using eN 0
    have e2 : M.getD i 0 = y := by simpa using eM 0
    rw [e1, e2, ltI]
    by_cases h : x = y
    · rw [if_pos h, if_pos (decide_eq_true h)]
      exact ltI_first N M xs ys (i + 1) (by rw [hn, List.length_cons]; omega) (by rw [hm, List.length_cons]; omega) (fun j => by have := eN (j + 1); rw [show i + 1 + j = i + (j + 1) by omega, this]; simp) (fun j => by have := eM (j + 1); rw [show i + 1 + j = i + (j + 1) by omega, this]; simp)
    · rw [if_neg h, if_neg (by simpa using h)]
theorem op_ltL (hu : X.A.units < cLine) : OpR X (compareOp .Lt) (rLtL X.K) := by
  intro pins s σ H x y v u Q I rx ry h
  obtain ⟨a, b, ns, ms, rfl, rfl, ha, hb, q⟩ := h
  cases rx
  cases ry
  obtain ⟨its, r1, p1, _⟩ := I.list ha
  obtain ⟨its2, r2, p2, _⟩ := I.list hb
  have i1 : IntsAre its ns := Vals.ints r1
  have i2 : IntsAre its2 ms := Vals.ints r2
  have e1 : its.toArray.size = ns.length := by rw [List.size_toArray]; exact i1.length
  have e2 : its2.toArray.size = ms.length := by rw [List.size_toArray]; exact i2.length
  have at1 : ∀ j (h1 : j < its.toArray.size), ∃ t, its.toArray[j] = .int (ns.getD j 0) t := fun j h1 => PyProof.Rows.IntsAre.int_at i1 _ _ (by simp at h1; simp [h1])
  have at2 : ∀ j (h1 : j < its2.toArray.size), ∃ t, its2.toArray[j] = .int (ms.getD j 0) t := fun j h1 => PyProof.Rows.IntsAre.int_at i2 _ _ (by simp at h1; simp [h1])
  have R := SeqAt.RcLt.lists (A := X.A) (s := s) (e := fun j => decide (ns.getD j 0 = ms.getD j 0)) (r := fun j => decide (ns.getD j 0 < ms.getD j 0)) p1.isList p2.isList hu (fun j h1 h2 => by
    obtain ⟨t, et⟩ := at1 j h1
    obtain ⟨t', et'⟩ := at2 j h2
    rw [et, et']
    have z : (ns.getD j 0 == ms.getD j 0) = decide (ns.getD j 0 = ms.getD j 0) := by
      by_cases q : ns.getD j 0 = ms.getD j 0
      · rw [decide_eq_true q]; exact beq_iff_eq.mpr q
      · rw [decide_eq_false q]; exact beq_eq_false_iff_ne.mpr q
    rw [← z]
    exact SeqAt.EqAt.int_int _ _ _ _) (fun j h1 h2 _ => by
    obtain ⟨t, et⟩ := at1 j h1
    obtain ⟨t', et'⟩ := at2 j h2
    rw [et, et']
    exact Ob.RcOp.lt_int _ _ _ _)
  rw [e1, e2, List.range_eq_range', ltI_first ns ms ns ms 0 (Nat.zero_add _).symm (Nat.zero_add _).symm (fun j => by rw [Nat.zero_add]) (fun j => by rw [Nat.zero_add])] at R
  have z : wpAny (model X.prog X.w) X.A (compareOp .Lt (.ref a) (.ref b)) (EP X pins σ Q) X.xe s := R X.prog X.w X.xe (EP X pins σ Q) ⟨.bl _, H, I, rfl, q⟩
  exact z
end
section
variable {X : Cx}
/-- xs.index(x) in a comprehension -/
theorem pe_indexK {K : PySem.W.Frag} {o e : Expr} {apos cpos : Pos} {to : TE} {t : TA} (hK : X.K = K) (ho : PE X o to) (ha : PA X [e] t)
    (hbase : attributeBase o "index" X.env (eval o X.env) = eval o X.env := by rfl)
    (hfew : ((backTo cpos (starEach [e] X.env)).all (fun x => !x.1) && (backToKw cpos (keywordEach [] X.env)).all (fun x => x.1.isSome)
      && decide (([e] : List Expr).length + ([] : List Keyword).length + (if ([] : List Keyword).isEmpty then 0 else 1) < 30)) = true := by rfl)
    (hline : (apos.endLine == cpos.line) = true := by rfl) (hs : starEach [e] X.env = (false, eval e X.env) :: starEach [] X.env := by rfl) (hplain : (backTo cpos (starEach [] X.env)).any (·.1) = false := by rfl) :
    PE X (.Call (.Attribute o "index" apos) [e] [] cpos) (tBM K "list" (rIndex K) to t) := by
  subst hK
  exact pe_bm PySem.F.plainAttrs_list PySem.F.slot_list_index PySem.F.type_list_index mt_index ho ha hbase hfew hline hs hplain
end
end Pw
namespace Pw
open PySem PySem.Spec PyProof.Rows L2
/-! ### expressions -/
inductive E where
  | num (n : Int) | cell (i : Nat) | prop (i : Nat) | store (i : Nat) | index
  | plus (a b : E) | minus (a b : E) | same (a b : E) | less (a b : E) | ite (c a b : E)
def E.toT : E → T
  | .num n => .tup [.str "num", .int n]
  | .cell i => .tup [.str "cell", .int (i : Int)]
  | .prop i => .tup [.str "prop", .int (i : Int)]
  | .store i => .tup [.str "store", .int (i : Int)]
  | .index => .tup [.str "index"]
  | .plus a b => .tup [.str "plus", a.toT, b.toT]
  | .minus a b => .tup [.str "minus", a.toT, b.toT]
  | .same a b => .tup [.str "same", a.toT, b.toT]
  | .less a b => .tup [.str "less", a.toT, b.toT]
  | .ite c a b => .tup [.str "if", c.toT, a.toT, b.toT]
def E.depth : E → Nat
  | .plus a b | .minus a b | .same a b | .less a b => max a.depth b.depth + 1
  | .ite c a b => max c.depth (max a.depth b.depth) + 1
  | _ => 0
def E.size : E → Nat
  | .plus a b | .minus a b | .same a b | .less a b => a.size + b.size
  | .ite c a b => c.size + a.size + b.size
  | _ => 1
structure Sc where
  cells : List Int
  props : List Int
  store : List Int
  index : Int
def Sc.toT (c : Sc) : T := .tup [.str "scope", .tup (c.cells.map .int), .tup (c.props.map .int), .tup (c.store.map .int), .int c.index]
def E.val (c : Sc) : E → Int
  | .num n => n
  | .cell i => c.cells.getD i 0
  | .prop i => c.props.getD i 0
  | .store i => c.store.getD i 0
  | .index => c.index
  | .plus a b => (a.val c + b.val c) % 1000
  | .minus a b => (a.val c - b.val c) % 1000
  | .same a b => if a.val c = b.val c then 1 else 0
  | .less a b => if a.val c < b.val c then 1 else 0
  | .ite q a b => if q.val c = 0 then b.val c else a.val c
def E.looks (c : Sc) : E → List Int
  | .store i => if i < c.store.length then [(i : Int)] else []
  | .plus a b | .minus a b | .same a b | .less a b => a.looks c ++ b.looks c
  | .ite q a b => q.looks c ++ if q.val c = 0 then b.looks c else a.looks c
  | _ => []
theorem E.size_pos : ∀ e : E, 1 ≤ e.size
  | .plus a b | .minus a b | .same a b | .less a b => by have := E.size_pos a; simp only [E.size]; omega
  | .ite q a b => by have := E.size_pos q; simp only [E.size]; omega
  | .num _ | .cell _ | .prop _ | .store _ | .index => by simp [E.size]
theorem E.looks_le (c : Sc) : ∀ e : E, (e.looks c).length ≤ e.size
  | .plus a b | .minus a b | .same a b | .less a b => by
    have h1 := E.looks_le c a
    have h2 := E.looks_le c b
    simp only [E.looks, E.size, List.length_append]
    omega
  | .ite q a b => by
    have h0 := E.looks_le c q
    have h1 := E.looks_le c a
    have h2 := E.looks_le c b
    simp only [E.looks, E.size, List.length_append]
    split <;> omega
  | .store i => by
    simp only [E.looks, E.size]
    split <;> simp
  | .num _ | .cell _ | .prop _ | .index => by simp [E.looks]
theorem getD_of {xs : List Int} {i : Nat} (h : i < xs.length) : (xs.map V.int)[i]? = some (.int (xs.getD i 0)) := by
  rw [List.getElem?_map, List.getElem?_eq_getElem h, List.getD_eq_getElem?_getD, List.getElem?_eq_getElem h]
  rfl
theorem getD_out {xs : List Int} {i : Nat} (h : ¬ i < xs.length) : xs.getD i 0 = 0 := by
  rw [List.getD_eq_getElem?_getD, List.getElem?_eq_none (by omega)]
  rfl
/-! ### what the defs promise -/
def spThere (K : PySem.W.Frag) : Sp := fun vs H Q _ => ∃ (a : Addr) (xs : List Int) (i : Nat), vs = [.ref a, .int (i : Int)] ∧ SqT K H a (xs.map V.int) ∧ Q (.bl (decide (i < xs.length))) H
def spItem (K : PySem.W.Frag) : Sp := fun vs H Q _ => ∃ (a : Addr) (xs : List Int) (i : Nat), vs = [.ref a, .int (i : Int)] ∧ SqT K H a (xs.map V.int) ∧ Q (.int (xs.getD i 0)) H
def spValue (n : Nat) : Sp := fun vs H Q _ => ∃ (e : E) (c : Sc) (ve vc : V) (l : Addr) (L : List V), vs = [ve, vc, .ref l] ∧ IsT H e.toT ve ∧ IsT H c.toT vc ∧ H l = some (.lst L) ∧ e.depth < n ∧ L.length + e.size ≤ 100000 ∧
  ∀ H', H' l = some (.lst (L ++ (e.looks c).map V.int)) → Oth [l] H H' → Q (.int (e.val c)) H'
end Pw
namespace Pw
open PySem PySem.Spec PyProof.Rows L2
theorem bo_int : bootBuiltins "int" = some (.type "int") := by decide +kernel
theorem bo_isi : bootBuiltins "isinstance" = some (.builtin "isinstance") := by decide +kernel
theorem bo_tuple : bootBuiltins "tuple" = some (.type "tuple") := by decide +kernel
theorem bo_bool : bootBuiltins "bool" = some (.type "bool") := by decide +kernel
theorem bo_str : bootBuiltins "str" = some (.type "str") := by decide +kernel
/-! ### what the law's own helpers promise -/
def spCell' (K : PySem.W.Frag) : Sp := fun vs H Q _ => ∃ (a : Addr) (ns : List Int) (j : Nat), vs = [.ref a, .int (j : Int)] ∧ SqL K H a (ns.map V.int) ∧ ∀ x : Int, Q (.int x) H
def spDigits (K : PySem.W.Frag) : Sp := fun vs H Q _ => ∃ (a : Addr) (ns : List Int) (i j : Nat), vs = [.ref a, .int (i : Int), .int (j : Int)] ∧ SqL K H a (ns.map V.int) ∧ i ≤ 100 ∧ j ≤ 100 ∧
  ∀ (p : Addr) (H' : Hp) (ds : List Int), H p = none → Oth [] H H' → H' p = some (.lst (ds.map V.int)) → Q (.ref p) H'
/-- the law's box: its digits, how many are drawn, what else stands in it -/
def Box (H : Hp) (b d : Addr) (rest : List V) : Prop := ∃ (ds : List Int) (at' : Nat), H b = some (.lst (.ref d :: .int (at' : Int) :: rest)) ∧ H d = some (.lst (ds.map V.int))
def spDraw : Sp := fun vs H Q _ => ∃ (b d : Addr) (m : Int) (rest : List V), vs = [.ref b, .int m] ∧ 0 < m ∧ Box H b d rest ∧
  ∀ (r : Int) (H' : Hp), 0 ≤ r → r < m → Box H' b d rest → Oth [b] H H' → Q (.int r) H'
theorem Box.new {H : Hp} {b d p : Addr} {rest : List V} {o : HO} (h : Box H b d rest) (n : H p = none) : Box (upd H p o) b d rest := by
  obtain ⟨ds, at', h1, h2⟩ := h
  exact ⟨ds, at', by rw [upd_ne (ne_of_none h1 n)]; exact h1, by rw [upd_ne (ne_of_none h2 n)]; exact h2⟩
theorem Box.put {H : Hp} {b d p : Addr} {rest : List V} {o : HO} (h : Box H b d rest) (nb : b ≠ p) (nd : d ≠ p) : Box (upd H p o) b d rest := by
  obtain ⟨ds, at', h1, h2⟩ := h
  exact ⟨ds, at', by rw [upd_ne nb]; exact h1, by rw [upd_ne nd]; exact h2⟩
theorem Box.is {H : Hp} {b d : Addr} {rest : List V} (h : Box H b d rest) : ∃ xs, H b = some (.lst xs) := by
  obtain ⟨ds, at', h1, h2⟩ := h
  exact ⟨_, h1⟩
theorem Box.nb {H : Hp} {b d p : Addr} {rest : List V} (h : Box H b d rest) (n : H p = none) : b ≠ p := by
  obtain ⟨ds, at', h1, h2⟩ := h
  exact ne_of_none h1 n
theorem Box.nd {H : Hp} {b d p : Addr} {rest : List V} (h : Box H b d rest) (n : H p = none) : d ≠ p := by
  obtain ⟨ds, at', h1, h2⟩ := h
  exact ne_of_none h2 n
theorem Box.oth {S : List Addr} {H H' : Hp} {b d : Addr} {rest : List V} (h : Box H b d rest) (o : Oth S H H') (nb : b ∉ S) (nd : d ∉ S) : Box H' b d rest := by
  obtain ⟨ds, at', h1, h2⟩ := h
  exact ⟨ds, at', o.keep _ _ nb h1, o.keep _ _ nd h2⟩
end Pw
namespace Pw
open PySem PySem.Spec PyProof.Rows L2
/-- data of at most so many levels, no row over 100,000 -/
inductive Dep : Nat → T → Prop
  | non (n : Nat) : Dep (n + 1) .non
  | int (n : Nat) (i : Int) : Dep (n + 1) (.int i)
  | str (n : Nat) (s : Str) : Dep (n + 1) (.str s)
  | tup (n : Nat) (ts : List T) : ts.length ≤ 100000 → (∀ t ∈ ts, Dep n t) → Dep (n + 1) (.tup ts)
def T.ty : T → String
  | .non => "NoneType" | .bl _ => "bool" | .int _ => "int" | .str _ => "str" | .tup _ => "tuple"
theorem IsT.ty {K : PySem.W.Frag} {H : Hp} {t : T} {v : V} (h : IsT H t v) : TyX K H v (.type t.ty) := by
  cases h with
  | non => exact .base .non
  | bl b => exact .base (.bl b)
  | int i => exact .base (.int i)
  | str s => exact .base (.str s)
  | tup e _ _ => exact .base (.tup e)
def spSame (n : Nat) : Sp := fun vs H Q _ => ∃ (t : T) (v u : V), vs = [v, u] ∧ IsT H t v ∧ IsT H t u ∧ Dep n t ∧ Q (.bl true) H
theorem Dep.mono {n m : Nat} {t : T} (h : Dep n t) (l : n ≤ m) : Dep m t := by
  induction h generalizing m with
  | non n => cases m with | zero => omega | succ m => exact .non m
  | int n i => cases m with | zero => omega | succ m => exact .int m i
  | str n s => cases m with | zero => omega | succ m => exact .str m s
  | tup n ts z _ ih => cases m with | zero => omega | succ m => exact .tup m ts z fun t ht => ih t ht (by omega)
theorem kb_NoneType_tuple : kitB "NoneType" "tuple" = some false := by decide +kernel
theorem kb_int_tuple : kitB "int" "tuple" = some false := by decide +kernel
theorem kb_int_bool : kitB "int" "bool" = some false := by decide +kernel
theorem kb_int_int : kitB "int" "int" = some true := by decide +kernel
theorem kb_str_tuple : kitB "str" "tuple" = some false := by decide +kernel
theorem kb_str_bool : kitB "str" "bool" = some false := by decide +kernel
theorem kb_str_int : kitB "str" "int" = some false := by decide +kernel
theorem kb_str_str : kitB "str" "str" = some true := by decide +kernel
theorem kb_tuple_tuple : kitB "tuple" "tuple" = some true := by decide +kernel
end Pw
namespace Pw
open PySem PySem.Spec PyProof.Rows L2
/-! ### templates -/
inductive Tp where
  | text (s : Str) | «show» (e : E)
  | box (tag : Str) (key : Option E) (action : Option Nat) (cs : List Tp)
  | when (e : E) (cs os : List Tp)
  | each (e : E) (cs : List Tp)
  | child (c : Nat) (key : Option E) (props : List E)
  | part (k : Nat) | input (tag : Str) (cell : Nat)
def keyT : Option E → T
  | none => .non
  | some e => e.toT
def actT : Option Nat → T
  | none => .non
  | some n => .int (n : Int)
mutual
def Tp.toT : Tp → T
  | .text s => .tup [.str "text", .str s]
  | .show e => .tup [.str "show", e.toT]
  | .box tag key action cs => .tup [.str "box", .str tag, keyT key, actT action, .tup (Tp.toTs cs)]
  | .when e cs os => .tup [.str "when", e.toT, .tup (Tp.toTs cs), .tup (Tp.toTs os)]
  | .each e cs => .tup [.str "each", e.toT, .tup (Tp.toTs cs)]
  | .child c key props => .tup [.str "child", .int (c : Int), keyT key, .tup (props.map E.toT)]
  | .part k => .tup [.str "part", .int (k : Int)]
  | .input tag cell => .tup [.str "input", .str tag, .int (cell : Int)]
def Tp.toTs : List Tp → List T
  | [] => []
  | t :: ts => t.toT :: Tp.toTs ts
end
mutual
def Tp.dep : Tp → Nat
  | .box _ _ _ cs | .each _ cs => Tp.deps cs + 1
  | .when _ cs os => max (Tp.deps cs) (Tp.deps os) + 1
  | _ => 0
def Tp.deps : List Tp → Nat
  | [] => 0
  | t :: ts => max t.dep (Tp.deps ts)
end
mutual
def Tp.cnt : Tp → Nat
  | .box _ _ _ cs | .each _ cs => Tp.cnts cs + 1
  | .when _ cs os => Tp.cnts cs + Tp.cnts os + 1
  | _ => 1
def Tp.cnts : List Tp → Nat
  | [] => 0
  | t :: ts => t.cnt + Tp.cnts ts
end
mutual
/-- the expressions are no deeper than 3, the props few -/
def Tp.Fine : Tp → Prop
  | .text _ | .part _ | .input _ _ => True
  | .show e => e.depth ≤ 3
  | .box _ key _ cs => (∀ e ∈ key, e.depth ≤ 3) ∧ Tp.Fines cs
  | .when e cs os => e.depth ≤ 3 ∧ Tp.Fines cs ∧ Tp.Fines os
  | .each e cs => e.depth ≤ 3 ∧ Tp.Fines cs
  | .child _ key props => (∀ e ∈ key, e.depth ≤ 3) ∧ props.length ≤ 10 ∧ ∀ e ∈ props, e.depth ≤ 3
def Tp.Fines : List Tp → Prop
  | [] => True
  | t :: ts => t.Fine ∧ Tp.Fines ts
end
/-- a template with its place and the kinds around it -/
structure Rw where
  place : List Int
  tp : Tp
  ar : List Str
mutual
def Tp.under (pl : List Int) (ar : List Str) : Tp → List Rw
  | .box _ _ _ cs => Tp.lst pl 0 (ar ++ [("box" : Str)]) cs
  | .each _ cs => Tp.lst pl 0 (ar ++ [("each" : Str)]) cs
  | .when _ cs os => Tp.lst (pl ++ [0]) 0 (ar ++ [("when" : Str)]) cs ++ Tp.lst (pl ++ [1]) 0 (ar ++ [("when" : Str)]) os
  | _ => []
def Tp.lst (pl : List Int) (k : Nat) (ar : List Str) : List Tp → List Rw
  | [] => []
  | t :: ts => ⟨pl ++ [(k : Int)], t, ar⟩ :: (t.under (pl ++ [(k : Int)]) ar ++ Tp.lst pl (k + 1) ar ts)
end
mutual
theorem Tp.under_len : ∀ (t : Tp) (pl : List Int) (ar : List Str), (t.under pl ar).length + 1 = t.cnt
  | .box _ _ _ cs, pl, ar => by simp only [Tp.under, Tp.cnt]; rw [Tp.lst_len cs]
  | .each _ cs, pl, ar => by simp only [Tp.under, Tp.cnt]; rw [Tp.lst_len cs]
  | .when _ cs os, pl, ar => by simp only [Tp.under, Tp.cnt, List.length_append]; rw [Tp.lst_len cs, Tp.lst_len os]
  | .text _, pl, ar | .show _, pl, ar | .child _ _ _, pl, ar | .part _, pl, ar | .input _ _, pl, ar => by simp [Tp.under, Tp.cnt]
theorem Tp.lst_len : ∀ (ts : List Tp) (pl : List Int) (k : Nat) (ar : List Str), (Tp.lst pl k ar ts).length = Tp.cnts ts
  | [], pl, k, ar => rfl
  | t :: ts, pl, k, ar => by
    have h := Tp.under_len t (pl ++ [(k : Int)]) ar
    simp only [Tp.lst, Tp.cnts, List.length_cons, List.length_append]
    rw [Tp.lst_len ts]
    omega
end
theorem Tp.toTs_map : ∀ ts : List Tp, Tp.toTs ts = ts.map Tp.toT
  | [] => rfl
  | t :: ts => by rw [Tp.toTs, Tp.toTs_map ts]; rfl
theorem Tp.cnt_pos (t : Tp) : 1 ≤ t.cnt := by cases t <;> simp [Tp.cnt]
theorem Tp.cnts_len : ∀ ts : List Tp, ts.length ≤ Tp.cnts ts
  | [] => Nat.le_refl _
  | t :: ts => by
    have := Tp.cnt_pos t
    have := Tp.cnts_len ts
    simp only [List.length_cons, Tp.cnts]
    omega
theorem Tp.lst_app : ∀ (ts us : List Tp) (pl : List Int) (k : Nat) (ar : List Str), Tp.lst pl k ar (ts ++ us) = Tp.lst pl k ar ts ++ Tp.lst pl (k + ts.length) ar us
  | [], us, pl, k, ar => rfl
  | t :: ts, us, pl, k, ar => by
    simp only [List.cons_append, Tp.lst, Tp.lst_app ts us, List.append_assoc, List.length_cons]
    rw [show k + 1 + ts.length = k + (ts.length + 1) by omega]
/-! ### how deep the data are -/
theorem E.dep : ∀ e : E, Dep (e.depth + 2) e.toT
  | .num n => .tup _ _ (by simp) (by simp; exact ⟨.str _ _, .int _ _⟩)
  | .cell i => .tup _ _ (by simp) (by simp; exact ⟨.str _ _, .int _ _⟩)
  | .prop i => .tup _ _ (by simp) (by simp; exact ⟨.str _ _, .int _ _⟩)
  | .store i => .tup _ _ (by simp) (by simp; exact ⟨.str _ _, .int _ _⟩)
  | .index => .tup _ _ (by simp) (by simp; exact .str _ _)
  | .plus a b => .tup _ _ (by simp) (by simp; exact ⟨.str _ _, (E.dep a).mono (by simp only [E.depth]; omega), (E.dep b).mono (by simp only [E.depth]; omega)⟩)
  | .minus a b => .tup _ _ (by simp) (by simp; exact ⟨.str _ _, (E.dep a).mono (by simp only [E.depth]; omega), (E.dep b).mono (by simp only [E.depth]; omega)⟩)
  | .same a b => .tup _ _ (by simp) (by simp; exact ⟨.str _ _, (E.dep a).mono (by simp only [E.depth]; omega), (E.dep b).mono (by simp only [E.depth]; omega)⟩)
  | .less a b => .tup _ _ (by simp) (by simp; exact ⟨.str _ _, (E.dep a).mono (by simp only [E.depth]; omega), (E.dep b).mono (by simp only [E.depth]; omega)⟩)
  | .ite c a b => .tup _ _ (by simp) (by simp; exact ⟨.str _ _, (E.dep c).mono (by simp only [E.depth]; omega), (E.dep a).mono (by simp only [E.depth]; omega), (E.dep b).mono (by simp only [E.depth]; omega)⟩)
theorem E.dep5 {e : E} (h : e.depth ≤ 3) (n : Nat) : Dep (5 + n) e.toT := (E.dep e).mono (by omega)
theorem key_dep {k : Option E} (h : ∀ e ∈ k, e.depth ≤ 3) (n : Nat) : Dep (5 + n) (keyT k) := by
  cases k with
  | none => rw [Nat.add_comm]; exact .non _
  | some e => exact E.dep5 (h e rfl) n
theorem act_dep (k : Option Nat) (n : Nat) : Dep (5 + n) (actT k) := by
  rw [Nat.add_comm]
  cases k with
  | none => exact .non _
  | some e => exact .int _ _
mutual
theorem Tp.dep_ok : ∀ t : Tp, t.Fine → t.cnt ≤ 5000 → Dep (6 + 2 * t.dep + 1) t.toT
  | .text s, h, hc => .tup _ _ (by simp) (by simp; exact ⟨.str _ _, .str _ _⟩)
  | .show e, h, hc => .tup _ _ (by simp) (by simp; exact ⟨.str _ _, (E.dep5 h 1).mono (by omega)⟩)
  | .box tag key a cs, h, hc => by
    simp only [Tp.cnt] at hc
    have q := Tp.deps_ok cs h.2 (by omega)
    refine .tup _ _ (by simp) ?_
    simp only [List.mem_cons, List.not_mem_nil, or_false, forall_eq_or_imp, forall_eq, Tp.dep]
    exact ⟨.str _ _, .str _ _, (key_dep h.1 0).mono (by omega), (act_dep a 0).mono (by omega), q.mono (by omega)⟩
  | .when e cs os, h, hc => by
    simp only [Tp.cnt] at hc
    have q1 := Tp.deps_ok cs h.2.1 (by omega)
    have q2 := Tp.deps_ok os h.2.2 (by omega)
    refine .tup _ _ (by simp) ?_
    simp only [List.mem_cons, List.not_mem_nil, or_false, forall_eq_or_imp, forall_eq, Tp.dep]
    exact ⟨.str _ _, (E.dep5 h.1 0).mono (by omega), q1.mono (by omega), q2.mono (by omega)⟩
  | .each e cs, h, hc => by
    simp only [Tp.cnt] at hc
    have q := Tp.deps_ok cs h.2 (by omega)
    refine .tup _ _ (by simp) ?_
    simp only [List.mem_cons, List.not_mem_nil, or_false, forall_eq_or_imp, forall_eq, Tp.dep]
    exact ⟨.str _ _, (E.dep5 h.1 0).mono (by omega), q.mono (by omega)⟩
  | .child c key props, h, hc => by
    refine .tup _ _ (by simp) ?_
    simp only [List.mem_cons, List.not_mem_nil, or_false, forall_eq_or_imp, forall_eq]
    refine ⟨.str _ _, .int _ _, (key_dep h.1 1).mono (by omega), .tup 5 _ (by rw [List.length_map]; have := h.2.1; omega) fun t ht => ?_⟩
    obtain ⟨e, he, rfl⟩ := List.mem_map.mp ht
    exact E.dep5 (h.2.2 e he) 0
  | .part k, h, hc => .tup _ _ (by simp) (by simp; exact ⟨.str _ _, .int _ _⟩)
  | .input tag c, h, hc => .tup _ _ (by simp) (by simp; exact ⟨.str _ _, .str _ _, .int _ _⟩)
theorem Tp.deps_ok : ∀ ts : List Tp, Tp.Fines ts → Tp.cnts ts ≤ 5000 → Dep (6 + 2 * Tp.deps ts + 2) (.tup (Tp.toTs ts))
  | [], h, hc => .tup _ _ (by simp [Tp.toTs]) (by simp [Tp.toTs])
  | t :: ts, h, hc => by
    have z := Tp.cnts_len ts
    simp only [Tp.cnts] at hc
    have q1 := Tp.dep_ok t h.1 (by omega)
    have q2 := Tp.deps_ok ts h.2 (by omega)
    cases q2 with
    | tup _ _ l q2 =>
      refine .tup _ _ (by simp only [Tp.toTs, List.length_cons, Tp.toTs_map, List.length_map]; omega) ?_
      simp only [Tp.toTs, List.mem_cons, Tp.deps]
      rintro u (rfl | hu)
      · exact q1.mono (by omega)
      · exact (q2 u hu).mono (by omega)
end
/-! ### tuples added -/
theorem cat_t {K : PySem.W.Frag} {H : Hp} {a b : Addr} {xs ys : List V} {Q : VK} (ha : H a = some (.tup xs)) (hb : H b = some (.tup ys)) (hz : xs.length + ys.length ≤ 100000)
    (q : ∀ (c : Addr) (H' : Hp), Oth [] H H' → H' c = some (.tup (xs ++ ys)) → Q (.ref c) H') : rCatA K (.ref a) (.ref b) H Q := by
  refine ⟨a, b, xs, ys, rfl, rfl, SqT.of ha, SqT.of hb, Nat.le_trans hz (by decide), fun e => ?_, fun _ e => ?_, fun _ _ p hp => ?_⟩
  · exact q b H Oth.refl (by rw [e]; exact hb)
  · exact q a H Oth.refl (by rw [e, List.append_nil]; exact ha)
  · exact q p _ (Oth.new hp) upd_same
end Pw
namespace Pw
open PySem PySem.Spec PyProof.Rows L2
def spWide (n : Nat) : Sp := fun vs H Q _ => ∃ (b dg : Addr) (d : Nat), vs = [.ref b, .int (d : Int)] ∧ d < n ∧ Box H b dg [] ∧
  ∀ (e : E) (v : V) (H' : Hp), e.depth ≤ d → e.size ≤ 3 ^ d → IsT H' e.toT v → Box H' b dg [] → Oth [b] H H' → Q v H'
/-- _law_value: the scope is a list -/
def spLawValue (n : Nat) : Sp := fun vs H Q _ => ∃ (e : E) (c : Sc) (ve : V) (s ac ap as l : Addr) (L : List V), vs = [ve, .ref s, .ref l] ∧ IsT H e.toT ve ∧ H s = some (.lst [.ref ac, .ref ap, .ref as, .int c.index]) ∧
  H ac = some (.tup (c.cells.map V.int)) ∧ H ap = some (.tup (c.props.map V.int)) ∧ H as = some (.tup (c.store.map V.int)) ∧ s ≠ l ∧ H l = some (.lst L) ∧ e.depth < n ∧ L.length + e.size ≤ 100000 ∧
  ∀ H', H' l = some (.lst (L ++ (e.looks c).map V.int)) → Oth [l] H H' → Q (.int (e.val c)) H'
theorem at0 {x : V} {xs : List V} : atI (x :: xs) 0 = some x := atI_nat (j := 0) rfl
theorem at1 {x y : V} {xs : List V} : atI (x :: y :: xs) 1 = some y := atI_nat (j := 1) rfl
theorem at2 {x y z : V} {xs : List V} : atI (x :: y :: z :: xs) 2 = some z := atI_nat (j := 2) rfl
theorem at3 {x y z a : V} {xs : List V} : atI (x :: y :: z :: a :: xs) 3 = some a := atI_nat (j := 3) rfl
theorem at4 {x y z a b : V} {xs : List V} : atI (x :: y :: z :: a :: b :: xs) 4 = some b := atI_nat (j := 4) rfl
theorem at5 {x y z a b c : V} {xs : List V} : atI (x :: y :: z :: a :: b :: c :: xs) 5 = some c := atI_nat (j := 5) rfl
theorem sz {n : Nat} (h : n ≤ 1000 := by exact Nat.le_of_ble_eq_true rfl) : n ≤ sizeLine := Nat.le_of_lt (small1000 h)
theorem iteTd {p A B : Prop} [Decidable p] (hp : p) (h : A) : if decide p = true then A else B := by rw [decide_eq_true hp]; exact iteT h
theorem iteFd {p A B : Prop} [Decidable p] (hp : ¬ p) (h : B) : if decide p = true then A else B := by rw [decide_eq_false hp]; exact iteF h
theorem iteTb {b : Bool} {A B : Prop} (hb : b = true) (h : A) : if b = true then A else B := by rw [hb]; exact iteT h
theorem iteFb {b : Bool} {A B : Prop} (hb : b = false) (h : B) : if b = true then A else B := by rw [hb]; exact iteF h
theorem lt1 {x y w : V} {r : List V} (h : eqV x w = false) : ∀ (m : Nat) (z' : V), m < 1 → (x :: y :: r)[m]? = some z' → eqV z' w = false := fun m z' hm e => by
  obtain rfl : m = 0 := by omega
  cases e
  exact h
theorem lt2 {x y z w : V} {r : List V} (h : eqV x w = false) (h2 : eqV y w = false) : ∀ (m : Nat) (z' : V), m < 2 → (x :: y :: z :: r)[m]? = some z' → eqV z' w = false := fun m z' hm e => by
  rcases (by omega : m = 0 ∨ m = 1) with rfl | rfl
  · cases e; exact h
  · cases e; exact h2
end Pw
namespace Pw
open PySem PySem.Spec PyProof.Rows L2
def natV (n : Nat) : V := .int (n : Int)
/-- what the law's box says of what is left: templates, repeats, parts -/
structure Bt where
  n2 : Int
  n4 : Int
  ps : List Nat
structure By (H : Hp) (b d pl : Addr) (z : Bt) : Prop where
  box : ∃ n3 : Int, Box H b d [.int z.n2, .int n3, .int z.n4, .ref pl]
  parts : H pl = some (.lst (z.ps.map natV))
  nd : pl ≠ d
section
variable {H H' : Hp} {b d pl p : Addr} {S : List Addr} {o : HO} {z : Bt}
theorem By.get (h : By H b d pl z) : ∃ (at' : Nat) (n3 : Int), H b = some (.lst [.ref d, .int (at' : Int), .int z.n2, .int n3, .int z.n4, .ref pl]) := by
  obtain ⟨⟨n3, ds, at', h1, h2⟩, _, _⟩ := h
  exact ⟨at', n3, h1⟩
theorem By.dig (h : By H b d pl z) : ∃ ds : List Int, H d = some (.lst (ds.map V.int)) := by
  obtain ⟨⟨n3, ds, at', h1, h2⟩, _, _⟩ := h
  exact ⟨ds, h2⟩
theorem By.ndb (h : By H b d pl z) : d ≠ b := by
  intro e
  obtain ⟨at', n3, h1⟩ := h.get
  obtain ⟨ds, h2⟩ := h.dig
  rw [e, h1] at h2
  cases ds with
  | nil => cases h2
  | cons x r => cases h2
theorem By.npb (h : By H b d pl z) : pl ≠ b := by
  intro e
  obtain ⟨at', n3, h1⟩ := h.get
  have h2 := h.parts
  rw [e, h1] at h2
  cases hz : z.ps with
  | nil => rw [hz] at h2; cases h2
  | cons x r => rw [hz] at h2; cases h2
theorem By.put (h : By H b d pl z) (at' : Nat) (n2 n3 n4 : Int) : By (upd H b (.lst [.ref d, .int (at' : Int), .int n2, .int n3, .int n4, .ref pl])) b d pl ⟨n2, n4, z.ps⟩ := by
  obtain ⟨ds, h2⟩ := h.dig
  exact ⟨⟨n3, ds, at', upd_same, by rw [upd_ne h.ndb]; exact h2⟩, by rw [upd_ne h.npb]; exact h.parts, h.nd⟩
theorem By.oth (h : By H b d pl z) (o : Oth S H H') (nb : b ∉ S) (nd : d ∉ S) (np : pl ∉ S) : By H' b d pl z := by
  obtain ⟨n3, hb⟩ := h.box
  exact ⟨⟨n3, hb.oth o nb nd⟩, o.keep _ _ np h.parts, h.nd⟩
theorem By.new (h : By H b d pl z) (n : H p = none) : By (upd H p o) b d pl z := h.oth (S := []) (Oth.new n) (by simp) (by simp) (by simp)
theorem By.is (h : By H b d pl z) : ∃ xs, H b = some (.lst xs) := let ⟨_, _, e⟩ := h.get; ⟨_, e⟩
theorem By.nb (h : By H b d pl z) (n : H p = none) : b ≠ p := let ⟨_, _, e⟩ := h.get; ne_of_none e n
theorem By.ndn (h : By H b d pl z) (n : H p = none) : d ≠ p := let ⟨_, e⟩ := h.dig; ne_of_none e n
theorem By.npn (h : By H b d pl z) (n : H p = none) : pl ≠ p := ne_of_none h.parts n
theorem By.swap {q : Addr} (h : By H b d pl z) (hq : H q = none) (ps : List Nat) (at' : Nat) (n2 n3 n4 : Int) :
    By (upd (upd H q (.lst (ps.map natV))) b (.lst [.ref d, .int (at' : Int), .int n2, .int n3, .int n4, .ref q])) b d q ⟨n2, n4, ps⟩ := by
  obtain ⟨ds, h2⟩ := h.dig
  exact ⟨⟨n3, ds, at', upd_same, by rw [upd_ne h.ndb, upd_ne (h.ndn hq)]; exact h2⟩, by rw [upd_ne (h.nb hq).symm]; exact upd_same, (h.ndn hq).symm⟩
theorem By.fresh (h : By H' b d pl z) (o : Oth [b] H H') (hp : H' p = none) : H p = none := by
  cases e : H p with
  | none => rfl
  | some x =>
    obtain ⟨xs, hb⟩ := h.is
    by_cases z : p = b
    · rw [z, hb] at hp; cases hp
    · rw [o.keep p _ (by simp [z]) e] at hp; cases hp
theorem By.lit {H1 : Hp} {l : Addr} {xs : List V} (h : By H b d pl z) (hl : H l = none) (o : Oth [b] (upd H l (.lst xs)) H1) : H1 l = some (.lst xs) := o.keep l _ (by simp [(h.nb hl).symm]) upd_same
end
theorem bo_max : bootBuiltins "max" = some (.builtin "max") := by decide +kernel
theorem rgV_nat (n : Nat) : rgV 0 (n : Int) = (List.range n).map natV := by
  unfold rgV
  rw [Int.sub_zero, Int.toNat_natCast]
  exact List.map_congr_left fun i _ => by rw [Int.zero_add]; rfl
theorem natV_toNat {r : Int} (h : 0 ≤ r) : V.int r = natV r.toNat := by
  show V.int r = V.int ((r.toNat : Nat) : Int)
  rw [Int.toNat_of_nonneg h]
theorem FnOk.weak {P : Program} {w : World} {K : PySem.W.Frag} {mg : Str → Option Value} {base : Heap} {CX : CXT} {k : Nat} {f : Addr} {fd : FuncData} {ps : List Str} {sp sp' : Sp} (o : FnOk P w K mg base CX k f fd ps sp) (h : ∀ vs H Q E, sp' vs H Q E → sp vs H Q E) : FnOk P w K mg base CX k f fd ps sp' :=
  ⟨fun vs H Q E q => o.len _ _ _ _ (h _ _ _ _ q), fun A outer s H args us vs Q E hr e0 hb r q => o.run A outer s H args us vs Q E hr e0 hb r (h _ _ _ _ q)⟩
def spDrawY : Sp := fun vs H Q _ => ∃ (z : Bt) (b d pl : Addr) (m : Int), vs = [.ref b, .int m] ∧ 0 < m ∧ By H b d pl z ∧
  ∀ (r : Int) (H' : Hp), 0 ≤ r → r < m → By H' b d pl z → Oth [b] H H' → Q (.int r) H'
theorem draw_y {vs : List V} {H : Hp} {Q : VK} {E : XK} (h : spDrawY vs H Q E) : spDraw vs H Q E := by
  obtain ⟨z, b, d, pl, m, rfl, hm, h, q⟩ := h
  obtain ⟨n3, hb⟩ := h.box
  exact ⟨b, d, m, _, rfl, hm, hb, fun r H' l u hb' o => q r H' l u ⟨⟨n3, hb'⟩, o.keep _ _ (by simp [h.npb]) h.parts, h.nd⟩ o⟩
theorem at_mem : ∀ {xs : List V} {r : Int}, 0 ≤ r → r < (xs.length : Int) → ∃ v ∈ xs, atI xs r = some v := by
  intro xs r h0 h1
  obtain ⟨j, rfl⟩ := Int.eq_ofNat_of_zero_le h0
  have hj : j < xs.length := by omega
  exact ⟨xs[j], List.getElem_mem hj, atI_nat (List.getElem?_eq_getElem hj)⟩
theorem Oth.two {b pl : Addr} {H H' : Hp} (o : Oth [b] H H') : Oth [b, pl] H H' := o.mono (by simp)
theorem toTs_app (a b : List Tp) : Tp.toTs (a ++ b) = Tp.toTs a ++ Tp.toTs b := by rw [Tp.toTs_map, Tp.toTs_map, Tp.toTs_map, List.map_append]
theorem deps_app (b : List Tp) : ∀ a : List Tp, Tp.deps (a ++ b) = max (Tp.deps a) (Tp.deps b)
  | [] => by simp [Tp.deps]
  | t :: a => by simp only [List.cons_append, Tp.deps, deps_app b a]; omega
theorem cnts_app (b : List Tp) : ∀ a : List Tp, Tp.cnts (a ++ b) = Tp.cnts a + Tp.cnts b
  | [] => by simp [Tp.cnts]
  | t :: a => by simp only [List.cons_append, Tp.cnts, cnts_app b a]; omega
theorem deps_parts : ∀ us : List Nat, Tp.deps (us.map Tp.part) = 0
  | [] => rfl
  | u :: us => by simp only [List.map_cons, Tp.deps, Tp.dep, deps_parts us]; rfl
theorem cnts_parts : ∀ us : List Nat, Tp.cnts (us.map Tp.part) = us.length
  | [] => rfl
  | u :: us => by simp only [List.map_cons, Tp.cnts, Tp.cnt, cnts_parts us, List.length_cons]; omega
/-! ### what is known of expressions and templates -/
def E.Ok : E → Prop
  | .num n => 0 ≤ n ∧ n < 1000
  | .plus a b | .minus a b | .same a b | .less a b => a.Ok ∧ b.Ok
  | .ite c a b => c.Ok ∧ a.Ok ∧ b.Ok
  | _ => True
mutual
/-- how many repeats -/
def Tp.ech : Tp → Nat
  | .box _ _ _ cs => Tp.echs cs
  | .each _ cs => Tp.echs cs + 1
  | .when _ cs os => Tp.echs cs + Tp.echs os
  | _ => 0
def Tp.echs : List Tp → Nat
  | [] => 0
  | t :: ts => t.ech + Tp.echs ts
end
mutual
/-- the parts that stand in it -/
def Tp.pts : Tp → List Nat
  | .box _ _ _ cs | .each _ cs => Tp.ptss cs
  | .when _ cs os => Tp.ptss cs ++ Tp.ptss os
  | .part k => [k]
  | _ => []
def Tp.ptss : List Tp → List Nat
  | [] => []
  | t :: ts => t.pts ++ Tp.ptss ts
end
def KeyOk (k : Option E) : Prop := ∀ e ∈ k, e.depth ≤ 3 ∧ e.size ≤ 7 ∧ e.Ok
mutual
def Tp.Ok (own last : Nat) (free : Bool) : Tp → Prop
  | .text s => s = "a" ∨ s = "b c" ∨ s = "7" ∨ s = "x"
  | .show e => e.depth ≤ 1 ∧ e.Ok
  | .box tag key act cs => (tag = "p" ∨ tag = "div" ∨ tag = "li") ∧ KeyOk key ∧ (∀ n ∈ act, n ≤ 2) ∧ Tp.Oks own last free cs
  | .when e cs os => (e.depth ≤ 1 ∧ e.Ok) ∧ Tp.Oks own last false cs ∧ Tp.Oks own last false os
  | .each e cs => (e.depth ≤ 3 ∧ e.Ok) ∧ Tp.Oks own last false cs
  | .child c key props => own < c ∧ c ≤ last ∧ KeyOk key ∧ props.length ≤ 2 ∧ ∀ e ∈ props, e.depth ≤ 1 ∧ e.Ok
  | .part _ => own = 0 ∧ free = true
  | .input tag cell => tag = "q" ∧ cell ≤ 2
def Tp.Oks (own last : Nat) (free : Bool) : List Tp → Prop
  | [] => True
  | t :: ts => t.Ok own last free ∧ Tp.Oks own last free ts
end
theorem echs_app (b : List Tp) : ∀ a : List Tp, Tp.echs (a ++ b) = Tp.echs a + Tp.echs b
  | [] => by simp [Tp.echs]
  | t :: a => by simp only [List.cons_append, Tp.echs, echs_app b a]; omega
theorem ptss_app (b : List Tp) : ∀ a : List Tp, Tp.ptss (a ++ b) = Tp.ptss a ++ Tp.ptss b
  | [] => by simp [Tp.ptss]
  | t :: a => by simp only [List.cons_append, Tp.ptss, ptss_app b a, List.append_assoc]
theorem oks_app {own last : Nat} {free : Bool} {b : List Tp} (hb : Tp.Oks own last free b) : ∀ a : List Tp, Tp.Oks own last free a → Tp.Oks own last free (a ++ b)
  | [], _ => hb
  | t :: a, h => ⟨h.1, oks_app hb a h.2⟩
theorem oks_mem {own last : Nat} {free : Bool} : ∀ {a : List Tp}, Tp.Oks own last free a → ∀ t ∈ a, t.Ok own last free
  | [], _, t, h => nomatch h
  | u :: a, h, t, ht => by
    rcases List.mem_cons.mp ht with rfl | ht
    · exact h.1
    · exact oks_mem h.2 t ht
theorem echs_parts : ∀ us : List Nat, Tp.echs (us.map Tp.part) = 0
  | [] => rfl
  | u :: us => by simp only [List.map_cons, Tp.echs, Tp.ech, echs_parts us]
theorem ptss_parts : ∀ us : List Nat, Tp.ptss (us.map Tp.part) = us
  | [] => rfl
  | u :: us => by simp only [List.map_cons, Tp.ptss, Tp.pts, ptss_parts us]; rfl
theorem oks_parts {last : Nat} : ∀ us : List Nat, Tp.Oks 0 last true (us.map Tp.part)
  | [] => trivial
  | u :: us => ⟨⟨rfl, rfl⟩, oks_parts us⟩
mutual
theorem Tp.Ok.fine {own last : Nat} : ∀ {free : Bool} (t : Tp), t.Ok own last free → t.Fine
  | _, .text _, _ => trivial
  | _, .show e, h => Nat.le_trans h.1 (by decide)
  | _, .box _ key _ cs, h => ⟨fun e he => Nat.le_trans (h.2.1 e he).1 (by decide), Tp.Oks.fine cs h.2.2.2⟩
  | _, .when e cs os, h => ⟨Nat.le_trans h.1.1 (by decide), Tp.Oks.fine cs h.2.1, Tp.Oks.fine os h.2.2⟩
  | _, .each e cs, h => ⟨h.1.1, Tp.Oks.fine cs h.2⟩
  | _, .child _ key props, h => ⟨fun e he => Nat.le_trans (h.2.2.1 e he).1 (by decide), Nat.le_trans h.2.2.2.1 (by decide), fun e he => Nat.le_trans (h.2.2.2.2 e he).1 (by decide)⟩
  | _, .part _, _ => trivial
  | _, .input _ _, _ => trivial
theorem Tp.Oks.fine {own last : Nat} : ∀ {free : Bool} (ts : List Tp), Tp.Oks own last free ts → Tp.Fines ts
  | _, [], _ => trivial
  | _, t :: ts, h => ⟨Tp.Ok.fine t h.1, Tp.Oks.fine ts h.2⟩
end
mutual
theorem Tp.Ok.noparts {own last : Nat} {free : Bool} (hf : ¬ (own = 0 ∧ free = true)) : ∀ (t : Tp), t.Ok own last free → t.pts = []
  | .text _, _ | .show _, _ | .child _ _ _, _ | .input _ _, _ => rfl
  | .box _ _ _ cs, h => Tp.Oks.noparts hf cs h.2.2.2
  | .when _ cs os, h => by simp only [Tp.pts, Tp.Oks.noparts (free := false) (by simp) cs h.2.1, Tp.Oks.noparts (free := false) (by simp) os h.2.2, List.append_nil]
  | .each _ cs, h => Tp.Oks.noparts (free := false) (by simp) cs h.2
  | .part k, h => absurd h hf
theorem Tp.Oks.noparts {own last : Nat} {free : Bool} (hf : ¬ (own = 0 ∧ free = true)) : ∀ (ts : List Tp), Tp.Oks own last free ts → Tp.ptss ts = []
  | [], _ => rfl
  | t :: ts, h => by simp only [Tp.ptss, Tp.Ok.noparts hf t h.1, Tp.Oks.noparts hf ts h.2, List.append_nil]
end
/-! ### programs -/
inductive St1 where
  | set (i : Nat) (e : E) | put (i : Nat) (e : E) | up (a : Nat)
def St1.toT : St1 → T
  | .set i e => .tup [.str "set", .int (i : Int), e.toT]
  | .put i e => .tup [.str "put", .int (i : Int), e.toT]
  | .up a => .tup [.str "up", .int (a : Int)]
def St1.Ok : St1 → Prop
  | .set i e | .put i e => i ≤ 1 ∧ e.depth ≤ 1 ∧ e.Ok
  | .up a => a ≤ 1
def stepsT (r : List St1) : T := .tup (r.map St1.toT)
def actsT (a : List (List St1)) : T := .tup (a.map stepsT)
def natT (n : Nat) : T := .int (n : Int)
def natsT (ns : List Nat) : T := .tup (ns.map natT)
structure Cq where
  cells : List Nat
  cs : List Tp
  acts : List (List St1)
structure Pq where
  comps : List Cq
  store : List Nat
  parts : List Nat
def Cq.toT (c : Cq) : T := .tup [.str "component", natsT c.cells, .tup (Tp.toTs c.cs), actsT c.acts]
def Pq.toT (p : Pq) : T := .tup [.str "program", .tup (p.comps.map Cq.toT), natsT p.store, natsT p.parts]
structure Cq.Ok (i last : Nat) (parts : Nat) (c : Cq) : Prop where
  oks : Tp.Oks i last true c.cs
  deps : Tp.deps c.cs ≤ 3
  cnts : Tp.cnts c.cs ≤ 8
  echs : Tp.echs c.cs ≤ 1
  pts : (Tp.ptss c.cs).Perm (if i = 0 then List.range parts else [])
  cl : c.cells.length ≤ 4
  cells : ∀ n ∈ c.cells, n < 4
  al : c.acts.length ≤ 2
  acts : ∀ a ∈ c.acts, a.length ≤ 2 ∧ ∀ s ∈ a, s.Ok
structure Pq.Ok (g : Pq) : Prop where
  comps : ∀ (i : Nat) (c : Cq), g.comps[i]? = some c → Cq.Ok i (g.comps.length - 1) g.parts.length c
  ne : 0 < g.comps.length
  many : g.comps.length ≤ 3
  pl : g.parts.length ≤ 2
  parts : ∀ n ∈ g.parts, 0 < n ∧ n < g.comps.length
  sl : g.store.length ≤ 2
  store : ∀ n ∈ g.store, n < 4
def spExprY (n : Nat) : Sp := fun vs H Q _ => ∃ (z : Bt) (b dg pl : Addr) (d : Nat), vs = [.ref b, .int (d : Int)] ∧ d < n ∧ By H b dg pl z ∧
  ∀ (e : E) (v : V) (H' : Hp), e.depth ≤ d → e.Ok → IsT H' e.toT v → By H' b dg pl z → Oth [b] H H' → Q v H'
def spKeyY : Sp := fun vs H Q _ => ∃ (z : Bt) (b dg pl : Addr), vs = [.ref b] ∧ By H b dg pl z ∧
  ∀ (k : Option E) (v : V) (H' : Hp), KeyOk k → IsT H' (keyT k) v → By H' b dg pl z → Oth [b] H H' → Q v H'
def spTemplateY (n : Nat) : Sp := fun vs H Q _ => ∃ (z : Bt) (b dg pl : Addr) (own level last r : Nat) (free : Bool), vs = [.ref b, .int (own : Int), .int (level : Int), .int (last : Int), .bl free] ∧ level + r = 3 ∧ r < n ∧ 0 < z.n2 ∧ 0 ≤ z.n4 ∧ By H b dg pl z ∧
  ∀ (z' : Bt) (t : Tp) (v : V) (H' : Hp), t.dep ≤ r → (t.cnt : Int) + z'.n2 = z.n2 → 0 ≤ z'.n2 → (t.ech : Int) + z'.n4 ≤ z.n4 → 0 ≤ z'.n4 → (t.pts ++ z'.ps).Perm z.ps → t.Ok own last free → IsT H' t.toT v → By H' b dg pl z' → Oth [b, pl] H H' → Q v H'
def spContentsY (n : Nat) : Sp := fun vs H Q _ => ∃ (z : Bt) (b dg pl : Addr) (own level last r : Nat) (free : Bool), vs = [.ref b, .int (own : Int), .int (level : Int), .int (last : Int), .bl free] ∧ level + r = 3 ∧ r < n ∧ 0 ≤ z.n2 ∧ 0 ≤ z.n4 ∧ By H b dg pl z ∧
  ∀ (z' : Bt) (ts : List Tp) (v : V) (H' : Hp), Tp.deps ts ≤ r → (Tp.cnts ts : Int) + z'.n2 = z.n2 → 0 ≤ z'.n2 → (Tp.echs ts : Int) + z'.n4 ≤ z.n4 → 0 ≤ z'.n4 → (Tp.ptss ts ++ z'.ps).Perm z.ps → Tp.Oks own last free ts → IsT H' (.tup (Tp.toTs ts)) v → By H' b dg pl z' → Oth [b, pl] H H' → Q v H'
def ActsOk (a : List (List St1)) : Prop := a.length = 2 ∧ ∀ r ∈ a, r.length ≤ 2 ∧ ∀ s ∈ r, s.Ok
def spActionsY : Sp := fun vs H Q _ => ∃ (z : Bt) (b dg pl : Addr), vs = [.ref b] ∧ By H b dg pl z ∧
  ∀ (a : List (List St1)) (v : V) (H' : Hp), ActsOk a → IsT H' (actsT a) v → By H' b dg pl z → Oth [b] H H' → Q v H'
def spProgramY : Sp := fun vs H Q _ => ∃ (z : Bt) (b dg pl : Addr), vs = [.ref b] ∧ By H b dg pl z ∧
  ∀ (g : Pq) (v : V) (pl' : Addr) (z' : Bt) (H' : Hp), g.Ok → IsT H' g.toT v → By H' b dg pl' z' → Oth [b] H H' → Q v H'
def spBoxY (K : PySem.W.Frag) : Sp := fun vs H Q _ => ∃ (a : Addr) (ns : List Int) (i j : Nat), vs = [.ref a, .int (i : Int), .int (j : Int)] ∧ SqL K H a (ns.map V.int) ∧ i ≤ 100 ∧ j ≤ 100 ∧
  ∀ (b d pl : Addr) (H' : Hp), H b = none → Oth [] H H' → By H' b d pl ⟨0, 0, []⟩ → Q (.ref b) H'
theorem nats_paired {H : Hp} : ∀ ms : List Nat, Paired (IsT H) (ms.map natT) (ms.map natV)
  | [] => .nil
  | m :: ms => .cons (.int _) (nats_paired ms)
theorem mkNats {H : Hp} {a : Addr} {ns : List Nat} (e : H a = some (.tup (ns.map natV))) : IsT H (natsT ns) (.ref a) := .mk e (nats_paired ns)
end Pw
namespace Pw
open PySem PySem.Spec PyProof.Rows L2
mutual
def T.nk : T → NestedKey
  | .non => .none
  | .bl b => .num (if b = true then 1 else 0)
  | .int i => .num i
  | .str s => .text s
  | .tup ts => .tup (T.nks ts)
def T.nks : List T → List NestedKey
  | [] => []
  | t :: ts => t.nk :: T.nks ts
end
theorem nks_len : ∀ ts : List T, (T.nks ts).length = ts.length
  | [] => rfl
  | t :: ts => congrArg (· + 1) (nks_len ts)
theorem nested_all {h : Heap} : ∀ (ts : List T) (xs : List V) (us : List Value), xs.length = ts.length → Vals xs us → (∀ (i : Nat) (t : T) (x : V), ts[i]? = some t → xs[i]? = some x → ∀ u, RelV x u → NestedIs h t.nk u) → NestedAll h (T.nks ts) us
  | [], [], _, _, .nil, _ => .nil
  | [], _ :: _, _, l, _, _ => by cases l
  | _ :: _, [], _, l, _, _ => by cases l
  | t :: ts, x :: xs, _, l, .cons r rr, q => .cons (q 0 t x rfl rfl _ r) (nested_all ts xs _ (Nat.succ.inj l) rr fun i t' x' e1 e2 => q (i + 1) t' x' e1 e2)
theorem nested_is {P : Program} {w : World} {H : Hp} {h : Heap} (ok : HOk P w H h) {t : T} {v : V} (i : IsT H t v) : ∀ u, RelV v u → NestedIs h t.nk u := by
  induction i with
  | non => intro u r; cases (show u = Value.none from r); exact .none
  | bl b => intro u r; cases (show u = Value.bool b from r); exact .bool rfl
  | int i => intro u r; obtain ⟨t, rfl⟩ := (show ∃ t, u = Value.int i t from r); exact .int _ _
  | str s => intro u r; obtain ⟨t, rfl⟩ := (show ∃ t, u = Value.str s t from r); exact .text _ _
  | @tup a xs ts e l _ ih =>
    intro u r
    cases (show u = Value.ref a from r)
    obtain ⟨_, its, rv, o, h1, h2, n, h3⟩ := (show ObjOk P w H h a (.tup xs) from ok a _ e)
    exact .tup h1 h2 h3 (nested_all ts xs its l rv ih)
/-- the one object of such a dict -/
def NDφ (P : Program) (w : World) (a : Addr) (xs : List (NestedKey × Addr × Value)) (h : Heap) : Prop :=
  ∃ o es ep, h.get? a = some o ∧ o.ExactDict ∧ o.data = .dict es ep ∧ es.toList = xs.map (entryOfKey (nestedKind P w)) ∧ (xs.map (·.1)).Nodup
mutual
/-- no truth value in it -/
def T.nob : T → Bool
  | .bl _ => false
  | .tup ts => T.nobs ts
  | _ => true
def T.nobs : List T → Bool
  | [] => true
  | t :: ts => t.nob && T.nobs ts
end
mutual
theorem nk_one : ∀ a b : T, a.nob = true → b.nob = true → a.nk = b.nk → a = b
  | .non, b, _, hb, h => by cases b <;> simp_all [T.nk, T.nob]
  | .bl _, b, ha, _, _ => by simp [T.nob] at ha
  | .int i, b, _, hb, h => by cases b <;> simp_all [T.nk, T.nob]
  | .str s, b, _, hb, h => by cases b <;> simp_all [T.nk, T.nob]
  | .tup ts, b, ha, hb, h => by
    cases b with
    | tup us =>
      simp only [T.nk, NestedKey.tup.injEq] at h
      simp only [T.nob] at ha hb
      rw [nks_one ts us ha hb h]
    | _ => simp [T.nk] at h
theorem nks_one : ∀ a b : List T, T.nobs a = true → T.nobs b = true → T.nks a = T.nks b → a = b
  | [], [], _, _, _ => rfl
  | [], _ :: _, _, _, h => by simp [T.nks] at h
  | _ :: _, [], _, _, h => by simp [T.nks] at h
  | x :: a, y :: b, ha, hb, h => by
    simp only [T.nobs, Bool.and_eq_true] at ha hb
    simp only [T.nks, List.cons.injEq] at h
    rw [nk_one x y ha.1 hb.1 h.1, nks_one a b ha.2 hb.2 h.2]
end
/-- a key that stands in the heap -/
def NKey (H : Hp) (k : NestedKey) (b : Addr) : Prop := ∃ t : T, t.nk = k ∧ IsT H t (.ref b) ∧ k.depth ≤ 8 ∧ t.nob = true
abbrev NT (H : Hp) : List (NestedKey × V) → List (NestedKey × Addr × Value) → Prop := Paired fun p q => p.1 = q.1 ∧ NKey H p.1 q.2.1 ∧ RelV p.2 q.2.2
/-- at a stands a dict of nested keys -/
def DN (P : Program) (w : World) (H : Hp) (a : Addr) (kvs : List (NestedKey × V)) : Prop :=
  ∃ xs, H a = some (.ext (NDφ P w a xs)) ∧ kvs.length ≤ sizeLine ∧ (a == sysModules) = false ∧ NT H kvs xs
section
variable {P : Program} {w : World} {H H' : Hp} {h : Heap} {a b : Addr} {S : List Addr} {kvs : List (NestedKey × V)} {xs : List (NestedKey × Addr × Value)} {k : NestedKey}
theorem NKey.oth (x : NKey H k b) (o : Oth S H H') : NKey H' k b := by
  obtain ⟨t, e, i, d, z⟩ := x
  exact ⟨t, e, i.oth o, d, z⟩
theorem NT.oth (r : NT H kvs xs) (o : Oth S H H') : NT H' kvs xs := by
  induction r with
  | nil => exact .nil
  | cons h t ih => exact .cons ⟨h.1, h.2.1.oth o, h.2.2⟩ ih
theorem DN.oth (x : DN P w H a kvs) (o : Oth S H H') (n : a ∉ S) : DN P w H' a kvs := by
  obtain ⟨xs, e, z, y, r⟩ := x
  exact ⟨xs, o.keep a _ n e, z, y, r.oth o⟩
theorem DN.ne (x : DN P w H a kvs) (n : H b = none) : a ≠ b := by
  obtain ⟨xs, e, z, y, r⟩ := x
  exact ne_of_none e n
theorem DN.is (x : DN P w H a kvs) : ∃ φ, H a = some (.ext φ) := by
  obtain ⟨xs, e, z, y, r⟩ := x
  exact ⟨_, e⟩
theorem NKey.ok (ok : HOk P w H h) (x : NKey H k b) : (nestedKind P w).is h k b := by
  obtain ⟨t, rfl, i, d, _⟩ := x
  exact ⟨nested_is ok i _ rfl, d⟩
theorem NT.all (ok : HOk P w H h) (r : NT H kvs xs) : ∀ x ∈ xs, (nestedKind P w).is h x.1 x.2.1 := by
  induction r with
  | nil => intro x hx; exact nomatch hx
  | cons q t ih =>
    intro x hx
    rcases List.mem_cons.mp hx with e | hx
    · subst e
      have := NKey.ok ok q.2.1
      rw [q.1] at this
      exact this
    · exact ih x hx
theorem DN.open (ok : HOk P w H h) (x : DN P w H a kvs) : ∃ xs, kvs.length ≤ sizeLine ∧ (a == sysModules) = false ∧ NT H kvs xs ∧ h.DictOfH (nestedKind P w) a xs := by
  obtain ⟨xs, e, z, y, r⟩ := x
  obtain ⟨⟨o, es, ep, h1, h2, h3, h4, h5⟩, _⟩ := (show ObjOk P w H h a (.ext (NDφ P w a xs)) from ok a _ e)
  exact ⟨xs, z, y, r, o, es, ep, h1, h2, h3, h4, r.all ok, h5⟩
theorem ND_ok (hm : h.DictOfH (nestedKind P w) a xs) : ObjOk P w H h a (.ext (NDφ P w a xs)) := by
  obtain ⟨o, es, ep, h1, h2, h3, h4, h6, h5⟩ := hm
  refine ⟨⟨o, es, ep, h1, h2, h3, h4, h5⟩, ⟨o, h1⟩, fun g1 g2 hg k => ?_⟩
  obtain ⟨o, es, ep, h1, h2, h3, h4, h5⟩ := hg
  exact ⟨o, es, ep, k _ h1, h2, h3, h4, h5⟩
theorem NT.val (r : NT H kvs xs) (k : NestedKey) : RelO (valV kvs k) ((atKey xs k).map (·.2)) := by
  induction r with
  | nil => exact True.intro
  | @cons p q ps qs h t ih =>
    obtain ⟨h1, h2, h3⟩ := h
    by_cases e : p.1 = k
    · have e' : q.1 = k := h1.symm.trans e
      have b : atKey (q :: qs) k = some q.2 := by simp [atKey, List.find?_cons, e']
      rw [valV_pos e, b]; exact h3
    · have e' : ¬ q.1 = k := fun z => e (h1.trans z)
      have b : atKey (q :: qs) k = atKey qs k := by simp [atKey, List.find?_cons, e']
      rw [valV_neg e, b]; exact ih
theorem NT.repl (r : NT H kvs xs) (k : NestedKey) {y : V} {u : Value} (ry : RelV y u) : NT H (kvs.map fun kv => if kv.1 = k then (kv.1, y) else kv) (xs.map (putAt k u)) := by
  induction r with
  | nil => exact .nil
  | @cons p q ps qs h t ih =>
    obtain ⟨h1, h2, h3⟩ := h
    rw [List.map_cons, List.map_cons]
    refine .cons ?_ ih
    unfold putAt
    by_cases e : p.1 = k
    · rw [if_pos e, if_pos (h1.symm.trans e)]; exact ⟨h1, h2, ry⟩
    · rw [if_neg e, if_neg (fun z => e (h1.trans z))]; exact ⟨h1, h2, h3⟩
theorem NT.put (r : NT H kvs xs) (k : NestedKey) {y : V} {u : Value} (hb : NKey H k b) (ry : RelV y u) : NT H (putK kvs k y) (storedH xs k b u) := by
  have e : (kvs.any fun kv => decide (kv.1 = k)) = (atKey xs k).isSome := by
    rw [valV_any, (r.val k).isSome_eq, Option.isSome_map]
  unfold putK storedH
  rw [e]
  by_cases q : (atKey xs k).isSome = true
  · rw [if_pos q, if_pos q]; exact r.repl k ry
  · rw [if_neg q, if_neg q]; exact Paired.snoc r ⟨rfl, hb, ry⟩
end
section
variable {X : Cx} {pos : Pos}
/-- {} -/
def tDNewN (P : Program) (w : World) : TE := fun _ H Q => ∀ p H', H p = none → Oth [] H H' → H' p ≠ none → DN P w H' p [] → Q (.ref p) H'
theorem pe_dnewN : PE X (.Dict [] [] pos) (tDNewN X.prog X.w) := ⟨fun pins s σ H Q I h => by
  have hn := I.hok.fresh (Nat.le_refl s.heap.objs.size)
  refine wpAny_Dict_empty ⟨.ref s.heap.objs.size, _, I.laid (a := s.heap.objs.size) (o := .ext (NDφ X.prog X.w s.heap.objs.size [])) (t' := s.toks) (fun _ _ q => Heap.get?_push_of_some _ q) (Nat.le_refl _) (ND_ok (Heap.DictOfH.new s.heap)), rfl, h _ _ hn (Oth.new hn) (by rw [upd_same]; exact fun z => nomatch z) ?_⟩
  exact ⟨[], upd_same, Nat.zero_le _, beq_eq_false_iff_ne.mpr (Ne.symm (Nat.ne_of_lt I.big)), .nil⟩⟩
/-- x in d -/
def rInN (P : Program) (w : World) : R2 := fun x y H Q => ∃ b a k kvs, x = .ref b ∧ y = .ref a ∧ NKey H k b ∧ DN P w H a kvs ∧ Q (.bl (valV kvs k).isSome) H
theorem op_inN (hu : X.A.units + 20 < cLine) : OpR X (compareOp .In) (rInN X.prog X.w) := by
  intro pins s σ H x y v u Q I r1 r2 h
  obtain ⟨b, a, k, kvs, rfl, rfl, hk, hd, q⟩ := h
  cases (show v = Value.ref b from r1)
  cases (show u = Value.ref a from r2)
  obtain ⟨xs, z, hs, rel, dd⟩ := hd.open I.hok
  refine wpAny_in_heap (knd := nestedKind X.prog X.w) (by show X.A.units + 1 + 8 < cLine; omega) (hk.ok I.hok) hs dd ?_
  have e := (rel.val k).isSome_eq
  rw [Option.isSome_map] at e
  rw [← e]
  exact ⟨.bl _, H, I.tok _, rfl, q⟩
/-- d[x] -/
def rIxN (P : Program) (w : World) : R2 := fun y x H Q => ∃ b a k kvs v, x = .ref b ∧ y = .ref a ∧ NKey H k b ∧ DN P w H a kvs ∧ valV kvs k = some v ∧ Q v H
theorem n_getItem {pins : List (Addr × Obj)} {σ : L2.St} {H : Hp} {s : Shared} {A : Around} {E : Value → Shared → Prop} {a b : Addr} {kvs : List (NestedKey × V)} {k : NestedKey} {v : V} {Q : Value → Shared → Prop} (hu : A.units + 20 < cLine) (I : Inv X pins σ H s) (hk : NKey H k b) (hd : DN X.prog X.w H a kvs) (hv : valV kvs k = some v)
    (h : ∀ w' s', Inv X pins σ H s' → RelV v w' → Q w' s') : wpAny (model X.prog X.w) A (getItem (.ref a) (.ref b)) Q E s := by
  obtain ⟨xs, z, hs, rel, dd⟩ := hd.open I.hok
  obtain ⟨w', hw, rw'⟩ := RelO.some_of (v := v) (o := (atKey xs k).map (·.2)) (by rw [← hv]; exact rel.val k)
  obtain ⟨p, hp, hp2⟩ := Option.map_eq_some_iff.mp hw
  refine wpAny_getItem_heap (knd := nestedKind X.prog X.w) (by show A.units + 1 + 8 < cLine; omega) (hk.ok I.hok) dd hp ?_
  rw [hp2]
  exact h w' _ (I.tok _) rw'
/-- d[x] = v -/
def rSetN (P : Program) (w : World) : V → V → V → Hp → (Hp → Prop) → Prop := fun o i v H Q => ∃ a b k kvs, o = .ref a ∧ i = .ref b ∧ NKey H k b ∧ DN P w H a kvs ∧ kvs.length < sizeLine ∧
  ∀ H', Oth [a] H H' → DN P w H' a (putK kvs k v) → Q H'
theorem set_nest (hu : X.A.units + 20 < cLine) : PSet X (rSetN X.prog X.w) := by
  intro pins s σ H o i v ov iv u Q I ro ri rv h
  obtain ⟨a, b, k, kvs, rfl, rfl, hk, hd, hl, q⟩ := h
  cases (show ov = Value.ref a from ro)
  cases (show iv = Value.ref b from ri)
  obtain ⟨φ, ea⟩ := hd.is
  obtain ⟨xs, z, hs, rel, dd⟩ := hd.open I.hok
  have hz : xs.length ≤ sizeLine := by rw [← Paired.length rel]; exact z
  refine wpAny_setItem_heap (knd := nestedKind X.prog X.w) (hsz := hz) (by show X.A.units + 1 + 8 < cLine; omega) (hk.ok I.hok) dd fun h' dd' hs' => ?_
  have he : ∃ q, h'.get? a = some q := let ⟨q, _, _, hq, _⟩ := dd'; ⟨q, hq⟩
  have o1 : Oth [a] H (upd H a (.ext (NDφ X.prog X.w a (storedH xs k b u)))) := ⟨fun c o' n e => by rw [upd_ne (fun z => n (by rw [z]; simp))]; exact e, fun c ys e => by rw [upd_ne (ne_of e ea (fun z => nomatch z))]; exact e⟩
  exact ⟨_, d_write I (by rw [ea]; exact True.intro) hs' he (ND_ok dd'), q _ o1 ⟨_, upd_same, by have := length_putK kvs k v; omega, hs, (rel.put k hk rv).oth o1⟩⟩
end
end Pw
namespace Pw
open PySem PySem.Spec PyProof.Rows L2
theorem take_snoc {α : Type} {l : List α} {i : Nat} {x : α} (h : l[i]? = some x) : l.take (i + 1) = l.take i ++ [x] := by
  rw [List.take_add_one, h]
  rfl
theorem IsT.mkI {H : Hp} {a : Addr} {ns : List Int} (e : H a = some (.tup (ns.map V.int))) : IsT H (.tup (ns.map .int)) (.ref a) := .mk e (int_paired ns)
inductive Nm where
  | at (t i : List Int) | key (t : List Int) (v : Int) | part (k : Nat)
deriving DecidableEq
def intsT (ns : List Int) : T := .tup (ns.map .int)
def Nm.toT : Nm → T
  | .at t i => .tup [.str "at", intsT t, intsT i]
  | .key t v => .tup [.str "key", intsT t, .int v]
  | .part k => .tup [.str "part", .int (k : Int)]
theorem nks_ints : ∀ {a b : List Int}, T.nks (a.map .int) = T.nks (b.map .int) → a = b
  | [], [], _ => rfl
  | [], _ :: _, h => by simp [T.nks] at h
  | _ :: _, [], h => by simp [T.nks] at h
  | x :: a, y :: b, h => by
    simp only [List.map_cons, T.nks, T.nk, List.cons.injEq, NestedKey.num.injEq] at h
    rw [h.1, nks_ints h.2]
theorem ints_nk {a b : List Int} (h : (intsT a).nk = (intsT b).nk) : a = b := by
  simp only [intsT, T.nk, NestedKey.tup.injEq] at h
  exact nks_ints h
theorem Nm.nk_inj {a b : Nm} (h : a.toT.nk = b.toT.nk) : a = b := by
  cases a with
  | «at» t i => cases b with
    | «at» t' i' =>
      simp only [Nm.toT, T.nk, T.nks, NestedKey.tup.injEq, List.cons.injEq] at h
      have h1 := ints_nk h.2.1
      have h2 := ints_nk h.2.2.1
      rw [h1, h2]
    | key t' v' => exfalso; simp only [Nm.toT, T.nk, T.nks, NestedKey.tup.injEq, List.cons.injEq, NestedKey.text.injEq] at h; exact absurd h.1 (by decide)
    | part k' => exfalso; simp only [Nm.toT, T.nk, T.nks, NestedKey.tup.injEq, List.cons.injEq, NestedKey.text.injEq] at h; exact absurd h.1 (by decide)
  | key t v => cases b with
    | «at» t' i' => exfalso; simp only [Nm.toT, T.nk, T.nks, NestedKey.tup.injEq, List.cons.injEq, NestedKey.text.injEq] at h; exact absurd h.1 (by decide)
    | key t' v' =>
      simp only [Nm.toT, T.nk, T.nks, NestedKey.tup.injEq, List.cons.injEq, NestedKey.num.injEq] at h
      have h1 := ints_nk h.2.1
      rw [h1, h.2.2.1]
    | part k' => exfalso; simp only [Nm.toT, T.nk, T.nks, NestedKey.tup.injEq, List.cons.injEq, NestedKey.text.injEq] at h; exact absurd h.1 (by decide)
  | part k => cases b with
    | «at» t' i' => exfalso; simp only [Nm.toT, T.nk, T.nks, NestedKey.tup.injEq, List.cons.injEq, NestedKey.text.injEq] at h; exact absurd h.1 (by decide)
    | key t' v' => exfalso; simp only [Nm.toT, T.nk, T.nks, NestedKey.tup.injEq, List.cons.injEq, NestedKey.text.injEq] at h; exact absurd h.1 (by decide)
    | part k' =>
      simp only [Nm.toT, T.nk, T.nks, NestedKey.tup.injEq, List.cons.injEq, NestedKey.num.injEq] at h
      have : k = k' := by omega
      rw [this]
/-! ### a row as it is laid out -/
structure Dr where
  wish : Nm
  other : Nm
  tp : Tp
  idx : Int
def Dr.toT (d : Dr) : T := .tup [d.wish.toT, d.other.toT, d.tp.toT, .int d.idx]
def Tp.key? : Tp → Option E
  | .box _ k _ _ => k
  | .child _ k _ => k
  | _ => none
def keyNm (c : Sc) (addr reps : List Int) : Option E → Nm
  | some e => .key addr (e.val c)
  | none => .at addr reps
def Tp.wish (c : Sc) (addr reps : List Int) : Tp → Nm
  | .part k => .part k
  | t => keyNm c addr reps t.key?
def keyLooks (c : Sc) : Option E → List Int
  | some e => e.looks c
  | none => []
mutual
def Tp.dis1 (c : Sc) (addr reps : List Int) : Tp → List Dr
  | .when e cs os => if e.val c = 0 then Tp.dis c (addr ++ [1]) reps 0 os else Tp.dis c (addr ++ [0]) reps 0 cs
  | .each e cs => (List.range ((e.val c) % 6).toNat).flatMap fun (n : Nat) => Tp.dis { c with index := (n : Int) } addr (reps ++ [(n : Int)]) 0 cs
  | .text s => [⟨.at addr reps, .at addr reps, .text s, c.index⟩]
  | .show e => [⟨.at addr reps, .at addr reps, .show e, c.index⟩]
  | .box tag key act cs => [⟨keyNm c addr reps key, .at addr reps, .box tag key act cs, c.index⟩]
  | .child n key props => [⟨keyNm c addr reps key, .at addr reps, .child n key props, c.index⟩]
  | .part k => [⟨.part k, .at addr reps, .part k, c.index⟩]
  | .input tag cell => [⟨.at addr reps, .at addr reps, .input tag cell, c.index⟩]
def Tp.dis (c : Sc) (before reps : List Int) (k : Nat) : List Tp → List Dr
  | [] => []
  | t :: ts => t.dis1 c (before ++ [(k : Int)]) reps ++ Tp.dis c before reps (k + 1) ts
end
mutual
def Tp.lk1 (c : Sc) : Tp → List Int
  | .when e cs os => e.looks c ++ if e.val c = 0 then Tp.lks c os else Tp.lks c cs
  | .each e cs => e.looks c ++ (List.range ((e.val c) % 6).toNat).flatMap fun (n : Nat) => Tp.lks { c with index := (n : Int) } cs
  | .box _ key _ _ => keyLooks c key
  | .child _ key _ => keyLooks c key
  | _ => []
def Tp.lks (c : Sc) : List Tp → List Int
  | [] => []
  | t :: ts => t.lk1 c ++ Tp.lks c ts
end
theorem Tp.dis_app (c : Sc) (before reps : List Int) : ∀ (a b : List Tp) (k : Nat), Tp.dis c before reps k (a ++ b) = Tp.dis c before reps k a ++ Tp.dis c before reps (k + a.length) b
  | [], b, k => rfl
  | t :: a, b, k => by
    simp only [List.cons_append, Tp.dis, Tp.dis_app c before reps a b, List.append_assoc, List.length_cons]
    rw [show k + 1 + a.length = k + (a.length + 1) by omega]
theorem Tp.lks_app (c : Sc) : ∀ (a b : List Tp), Tp.lks c (a ++ b) = Tp.lks c a ++ Tp.lks c b
  | [], b => rfl
  | t :: a, b => by simp only [List.cons_append, Tp.lks, Tp.lks_app c a b, List.append_assoc]
/-! ### how long rows are -/
theorem E.size_le : ∀ (e : E) (d : Nat), e.depth ≤ d → e.size ≤ 3 ^ d
  | .num _, d, _ | .cell _, d, _ | .prop _, d, _ | .store _, d, _ | .index, d, _ => Nat.one_le_pow d 3 (by decide)
  | .plus a b, d, h | .minus a b, d, h | .same a b, d, h | .less a b, d, h => by
    simp only [E.depth] at h
    obtain ⟨d, rfl⟩ : ∃ n, d = n + 1 := ⟨d - 1, by omega⟩
    have h1 := E.size_le a d (by omega)
    have h2 := E.size_le b d (by omega)
    rw [Nat.pow_succ]
    simp only [E.size]
    omega
  | .ite c a b, d, h => by
    simp only [E.depth] at h
    obtain ⟨d, rfl⟩ : ∃ n, d = n + 1 := ⟨d - 1, by omega⟩
    have h0 := E.size_le c d (by omega)
    have h1 := E.size_le a d (by omega)
    have h2 := E.size_le b d (by omega)
    rw [Nat.pow_succ]
    simp only [E.size]
    omega
def ksz : Option E → Nat
  | some e => e.size
  | none => 0
def psz : List E → Nat
  | [] => 0
  | e :: es => e.size + psz es
mutual
/-- how much a template can give, its expressions told -/
def Tp.wt : Tp → Nat
  | .when e cs os => e.size + Tp.wts cs + Tp.wts os + 1
  | .each e cs => e.size + 5 * Tp.wts cs + 1
  | .box _ key _ cs => ksz key + Tp.wts cs + 1
  | .child _ key props => ksz key + psz props + 1
  | .show e => e.size + 1
  | _ => 1
def Tp.wts : List Tp → Nat
  | [] => 0
  | t :: ts => t.wt + Tp.wts ts
end
theorem wts_app (b : List Tp) : ∀ a : List Tp, Tp.wts (a ++ b) = Tp.wts a + Tp.wts b
  | [] => by simp [Tp.wts]
  | t :: a => by simp only [List.cons_append, Tp.wts, wts_app b a]; omega
theorem wts_mem {t : Tp} : ∀ {ts : List Tp}, t ∈ ts → t.wt ≤ Tp.wts ts
  | u :: ts, h => by
    simp only [Tp.wts]
    rcases List.mem_cons.mp h with rfl | h
    · omega
    · have := wts_mem h; omega
theorem deps_mem {t : Tp} : ∀ {ts : List Tp}, t ∈ ts → t.dep ≤ Tp.deps ts
  | u :: ts, h => by
    simp only [Tp.deps]
    rcases List.mem_cons.mp h with rfl | h
    · omega
    · have := deps_mem h; omega
theorem fines_mem {t : Tp} : ∀ {ts : List Tp}, Tp.Fines ts → t ∈ ts → t.Fine
  | u :: ts, f, h => by
    rcases List.mem_cons.mp h with rfl | h
    · exact f.1
    · exact fines_mem f.2 h
theorem keyLooks_le (c : Sc) : ∀ k : Option E, (keyLooks c k).length ≤ ksz k
  | none => Nat.le_refl _
  | some e => e.looks_le c
theorem mod6 (x : Int) : (x % 6).toNat ≤ 5 := by omega
theorem flat_len {α : Type} {f : Nat → List α} {m : Nat} (h : ∀ n, (f n).length ≤ m) : ∀ r : Nat, ((List.range r).flatMap f).length ≤ r * m
  | 0 => by simp
  | r + 1 => by
    rw [List.range_succ, List.flatMap_append, List.length_append, Nat.succ_mul]
    have := flat_len h r
    have := h r
    simp only [List.flatMap_cons, List.flatMap_nil, List.append_nil]
    omega
mutual
theorem Tp.dis1_len : ∀ (t : Tp) (c : Sc) (addr reps : List Int), (t.dis1 c addr reps).length ≤ t.wt
  | .when e cs os, c, addr, reps => by
    simp only [Tp.dis1, Tp.wt]
    split
    · have := Tp.dis_len os c (addr ++ [1]) reps 0; omega
    · have := Tp.dis_len cs c (addr ++ [0]) reps 0; omega
  | .each e cs, c, addr, reps => by
    simp only [Tp.dis1, Tp.wt]
    have h1 := flat_len (f := fun n : Nat => Tp.dis { c with index := (n : Int) } addr (reps ++ [(n : Int)]) 0 cs) (m := Tp.wts cs) (fun n => Tp.dis_len cs _ _ _ _) ((e.val c) % 6).toNat
    have h2 := Nat.mul_le_mul_right (Tp.wts cs) (mod6 (e.val c))
    omega
  | .text s, c, addr, reps | .show s, c, addr, reps | .box _ _ _ _, c, addr, reps | .child _ _ _, c, addr, reps | .part _, c, addr, reps | .input _ _, c, addr, reps => by simp [Tp.dis1, Tp.wt]
theorem Tp.dis_len : ∀ (ts : List Tp) (c : Sc) (before reps : List Int) (k : Nat), (Tp.dis c before reps k ts).length ≤ Tp.wts ts
  | [], c, before, reps, k => Nat.le_refl _
  | t :: ts, c, before, reps, k => by
    simp only [Tp.dis, Tp.wts, List.length_append]
    have := Tp.dis1_len t c (before ++ [(k : Int)]) reps
    have := Tp.dis_len ts c before reps (k + 1)
    omega
end
mutual
theorem Tp.lk1_len : ∀ (t : Tp) (c : Sc), (t.lk1 c).length ≤ t.wt
  | .when e cs os, c => by
    have := e.looks_le c
    simp only [Tp.lk1, Tp.wt, List.length_append]
    split
    · have := Tp.lks_len os c; omega
    · have := Tp.lks_len cs c; omega
  | .each e cs, c => by
    have := e.looks_le c
    simp only [Tp.lk1, Tp.wt, List.length_append]
    have h1 := flat_len (f := fun n : Nat => Tp.lks { c with index := (n : Int) } cs) (m := Tp.wts cs) (fun n => Tp.lks_len cs _) ((e.val c) % 6).toNat
    have h2 := Nat.mul_le_mul_right (Tp.wts cs) (mod6 (e.val c))
    omega
  | .box _ key _ cs, c => by have := keyLooks_le c key; simp only [Tp.lk1, Tp.wt]; omega
  | .child _ key _, c => by have := keyLooks_le c key; simp only [Tp.lk1, Tp.wt]; omega
  | .text _, c | .show _, c | .part _, c | .input _ _, c => by simp [Tp.lk1]
theorem Tp.lks_len : ∀ (ts : List Tp) (c : Sc), (Tp.lks c ts).length ≤ Tp.wts ts
  | [], c => Nat.le_refl _
  | t :: ts, c => by
    simp only [Tp.lks, Tp.wts, List.length_append]
    have := Tp.lk1_len t c
    have := Tp.lks_len ts c
    omega
end
theorem ksz_le {k : Option E} (h : KeyOk k) : ksz k ≤ 7 := by
  cases k with
  | none => exact Nat.zero_le _
  | some e => exact (h e rfl).2.1
theorem psz_le : ∀ (es : List E), (∀ e ∈ es, e.depth ≤ 1 ∧ e.Ok) → psz es ≤ 3 * es.length
  | [], _ => Nat.le_refl _
  | e :: es, h => by
    have h1 := E.size_le e 1 (h e List.mem_cons_self).1
    have h2 := psz_le es fun x hx => h x (List.mem_cons_of_mem _ hx)
    simp only [psz, List.length_cons]
    omega
mutual
theorem Tp.wt_le0 {own last : Nat} : ∀ {free : Bool} (t : Tp), t.Ok own last free → t.ech = 0 → t.wt ≤ 14 * t.cnt
  | _, .text _, _, _ | _, .part _, _, _ | _, .input _ _, _, _ => by simp [Tp.wt, Tp.cnt]
  | _, .show e, h, _ => by have := E.size_le e 1 h.1; simp only [Tp.wt, Tp.cnt]; omega
  | _, .box _ key _ cs, h, z => by
    have := ksz_le h.2.1
    have := Tp.wts_le0 cs h.2.2.2 z
    simp only [Tp.wt, Tp.cnt]; omega
  | _, .when e cs os, h, z => by
    simp only [Tp.ech] at z
    have := E.size_le e 1 h.1.1
    have := Tp.wts_le0 cs h.2.1 (by omega)
    have := Tp.wts_le0 os h.2.2 (by omega)
    simp only [Tp.wt, Tp.cnt]; omega
  | _, .each e cs, h, z => by simp [Tp.ech] at z
  | _, .child _ key props, h, _ => by
    have := ksz_le h.2.2.1
    have := psz_le props h.2.2.2.2
    have := h.2.2.2.1
    simp only [Tp.wt, Tp.cnt]; omega
theorem Tp.wts_le0 {own last : Nat} : ∀ {free : Bool} (ts : List Tp), Tp.Oks own last free ts → Tp.echs ts = 0 → Tp.wts ts ≤ 14 * Tp.cnts ts
  | _, [], _, _ => Nat.le_refl _
  | _, t :: ts, h, z => by
    simp only [Tp.echs] at z
    have := Tp.wt_le0 t h.1 (by omega)
    have := Tp.wts_le0 ts h.2 (by omega)
    simp only [Tp.wts, Tp.cnts]; omega
end
mutual
theorem Tp.wt_le {own last : Nat} : ∀ {free : Bool} (t : Tp), t.Ok own last free → t.ech ≤ 1 → t.wt ≤ 70 * t.cnt
  | _, .text _, _, _ | _, .part _, _, _ | _, .input _ _, _, _ => by simp [Tp.wt, Tp.cnt]
  | _, .show e, h, _ => by have := E.size_le e 1 h.1; simp only [Tp.wt, Tp.cnt]; omega
  | _, .box _ key _ cs, h, z => by
    have := ksz_le h.2.1
    have := Tp.wts_le cs h.2.2.2 z
    simp only [Tp.wt, Tp.cnt]; omega
  | _, .when e cs os, h, z => by
    simp only [Tp.ech] at z
    have := E.size_le e 1 h.1.1
    have := Tp.wts_le cs h.2.1 (by omega)
    have := Tp.wts_le os h.2.2 (by omega)
    simp only [Tp.wt, Tp.cnt]; omega
  | _, .each e cs, h, z => by
    simp only [Tp.ech] at z
    have := E.size_le e 3 h.1.1
    have := Tp.wts_le0 cs h.2 (by omega)
    simp only [Tp.wt, Tp.cnt]; omega
  | _, .child _ key props, h, _ => by
    have := ksz_le h.2.2.1
    have := psz_le props h.2.2.2.2
    have := h.2.2.2.1
    simp only [Tp.wt, Tp.cnt]; omega
theorem Tp.wts_le {own last : Nat} : ∀ {free : Bool} (ts : List Tp), Tp.Oks own last free ts → Tp.echs ts ≤ 1 → Tp.wts ts ≤ 70 * Tp.cnts ts
  | _, [], _, _ => Nat.le_refl _
  | _, t :: ts, h, z => by
    simp only [Tp.echs] at z
    have := Tp.wt_le t h.1 (by omega)
    have := Tp.wts_le ts h.2 (by omega)
    simp only [Tp.wts, Tp.cnts]; omega
end
/-! ### names -/
/-- the program's: the wish, unless it is taken -/
def named (tk : List Nm) : List Dr → List (Nm × Tp × Int)
  | [] => []
  | d :: r => let n := if d.wish ∈ tk then d.other else d.wish; (n, d.tp, d.idx) :: named (tk ++ [n]) r
/-- the law's: a part has its name always -/
def lawName (tk : List Nm) (d : Dr) : Nm :=
  match d.wish with
  | .key t v => if Nm.key t v ∈ tk then d.other else .key t v
  | n => n
def lawNamed (tk : List Nm) : List Dr → List (Nm × Tp × Int)
  | [] => []
  | d :: r => (lawName tk d, d.tp, d.idx) :: lawNamed (tk ++ [lawName tk d]) r
theorem lawNamed_app (r : List Dr) : ∀ (tk : List Nm) (a : List Dr), lawNamed tk (a ++ r) = lawNamed tk a ++ lawNamed (tk ++ (lawNamed tk a).map (·.1)) r
  | tk, [] => by simp [lawNamed]
  | tk, d :: a => by
    simp only [List.cons_append, lawNamed, lawNamed_app r, List.map_cons, List.append_assoc, List.nil_append]
theorem lawNamed_len : ∀ (tk : List Nm) (a : List Dr), (lawNamed tk a).length = a.length
  | tk, [] => rfl
  | tk, d :: a => by simp only [lawNamed, List.length_cons, lawNamed_len]
theorem named_app (r : List Dr) : ∀ (tk : List Nm) (a : List Dr), named tk (a ++ r) = named tk a ++ named (tk ++ (named tk a).map (·.1)) r
  | tk, [] => by simp [named]
  | tk, d :: a => by
    simp only [List.cons_append, named, named_app r, List.map_cons, List.append_assoc, List.nil_append]
theorem named_len : ∀ (tk : List Nm) (a : List Dr), (named tk a).length = a.length
  | tk, [] => rfl
  | tk, d :: a => by simp only [named, List.length_cons, named_len]
def Dr.partOf (d : Dr) : List Nat := match d.wish with
  | .part k => [k]
  | _ => []
def partsIn' : List Dr → List Nat
  | [] => []
  | d :: r => d.partOf ++ partsIn' r
theorem partsIn'_app (r : List Dr) : ∀ a : List Dr, partsIn' (a ++ r) = partsIn' a ++ partsIn' r
  | [] => rfl
  | d :: a => by simp only [List.cons_append, partsIn', partsIn'_app r a, List.append_assoc]
/-- what holds of the elements of a row -/
structure Dr.Good (d : Dr) : Prop where
  other : ∃ t i, d.other = .at t i
  wish : d.wish = d.other ∨ (∃ t v, d.wish = .key t v) ∨ ∃ k, d.wish = .part k
structure RowGood (ds : List Dr) : Prop where
  all : ∀ d ∈ ds, d.Good
  others : (ds.map (·.other)).Nodup
  parts : (partsIn' ds).Nodup
/-- both namings are one, and the names are unlike -/
theorem named_eq : ∀ (ds done : List Dr) (tk : List Nm), RowGood (done ++ ds) → tk.Nodup → (∀ t i, Nm.at t i ∈ tk → Nm.at t i ∈ done.map (·.other)) → (∀ k, Nm.part k ∈ tk → k ∈ partsIn' done) →
    named tk ds = lawNamed tk ds ∧ (tk ++ (lawNamed tk ds).map (·.1)).Nodup
  | [], done, tk, g, nd, h1, h2 => ⟨rfl, by simpa [lawNamed] using nd⟩
  | d :: ds, done, tk, g, nd, h1, h2 => by
    have gd := g.all d (by simp)
    obtain ⟨t, i, ho⟩ := gd.other
    have oth : Nm.at t i ∉ tk := fun h => by
      have h3 := h1 _ _ h
      have h4 := g.others
      rw [List.map_append, List.nodup_append] at h4
      exact h4.2.2 _ h3 d.other (by simp) ho.symm
    have pn : ∀ k, d.wish = .part k → Nm.part k ∉ tk := fun k hk h => by
      have h3 := h2 _ h
      have h4 := g.parts
      rw [partsIn'_app, List.nodup_append] at h4
      exact h4.2.2 _ h3 k (by simp [partsIn', Dr.partOf, hk]) rfl
    have e : (if d.wish ∈ tk then d.other else d.wish) = lawName tk d := by
      unfold lawName
      rcases gd.wish with h | ⟨t', v', h⟩ | ⟨k, h⟩
      · rw [h, ho, if_neg oth]
      · rw [h]
      · rw [h, if_neg (pn k h)]
    have nn : lawName tk d ∉ tk := by
      rw [← e]
      split
      · rw [ho]; exact oth
      · assumption
    have a1 : ∀ t' i', Nm.at t' i' = lawName tk d → Nm.at t' i' = d.other := fun t' i' h => by
      rw [← e] at h
      split at h
      · exact h
      · rcases gd.wish with h5 | ⟨t5, v5, h5⟩ | ⟨k, h5⟩
        · rw [h, h5]
        · rw [h5] at h; cases h
        · rw [h5] at h; cases h
    have a2 : ∀ k, Nm.part k = lawName tk d → d.partOf = [k] := fun k h => by
      rw [← e] at h
      split at h
      · rw [ho] at h; cases h
      · simp only [Dr.partOf, ← h]
    obtain ⟨r1, r2⟩ := named_eq ds (done ++ [d]) (tk ++ [lawName tk d]) (by simpa using g) (by
      rw [List.nodup_append]
      exact ⟨nd, by simp, fun a ha b hb => by rw [List.mem_singleton.mp hb]; exact fun z => nn (z ▸ ha)⟩) (fun t' i' h => by
      rcases List.mem_append.mp h with h | h
      · rw [List.map_append]; exact List.mem_append_left _ (h1 _ _ h)
      · rw [List.map_append]; exact List.mem_append_right _ (by rw [a1 t' i' (List.mem_singleton.mp h)]; simp)) (fun k h => by
      rw [partsIn'_app]
      rcases List.mem_append.mp h with h | h
      · exact List.mem_append_left _ (h2 _ h)
      · exact List.mem_append_right _ (by simp [partsIn', a2 k (List.mem_singleton.mp h)]))
    refine ⟨by simp only [named, lawNamed, e, r1], ?_⟩
    simpa [lawNamed] using r2
/-! ### the rows that are laid out are such -/
mutual
theorem Tp.dis1_at : ∀ (t : Tp) (c : Sc) (addr reps : List Int), ∀ d ∈ t.dis1 c addr reps, (∃ u w, d.other = .at (addr ++ u) (reps ++ w)) ∧ d.Good
  | .when e cs os, c, addr, reps, d, h => by
    simp only [Tp.dis1] at h
    split at h
    · obtain ⟨⟨j, u, w, _, e⟩, g⟩ := Tp.dis_at os c (addr ++ [1]) reps 0 d h
      exact ⟨⟨1 :: (j : Int) :: u, w, by rw [e]; simp⟩, g⟩
    · obtain ⟨⟨j, u, w, _, e⟩, g⟩ := Tp.dis_at cs c (addr ++ [0]) reps 0 d h
      exact ⟨⟨0 :: (j : Int) :: u, w, by rw [e]; simp⟩, g⟩
  | .each e cs, c, addr, reps, d, h => by
    simp only [Tp.dis1, List.mem_flatMap] at h
    obtain ⟨n, _, h⟩ := h
    obtain ⟨⟨j, u, w, _, e⟩, g⟩ := Tp.dis_at cs _ addr (reps ++ [(n : Int)]) 0 d h
    exact ⟨⟨(j : Int) :: u, (n : Int) :: w, by rw [e]; simp⟩, g⟩
  | .text _, c, addr, reps, d, h | .show _, c, addr, reps, d, h | .input _ _, c, addr, reps, d, h => by
    simp only [Tp.dis1, List.mem_singleton] at h
    subst h
    exact ⟨⟨[], [], by simp⟩, ⟨_, _, rfl⟩, .inl rfl⟩
  | .part k, c, addr, reps, d, h => by
    simp only [Tp.dis1, List.mem_singleton] at h
    subst h
    exact ⟨⟨[], [], by simp⟩, ⟨_, _, rfl⟩, .inr (.inr ⟨_, rfl⟩)⟩
  | .box _ key _ _, c, addr, reps, d, h | .child _ key _, c, addr, reps, d, h => by
    simp only [Tp.dis1, List.mem_singleton] at h
    subst h
    refine ⟨⟨[], [], by simp⟩, ⟨_, _, rfl⟩, ?_⟩
    cases key with
    | none => exact .inl rfl
    | some e => exact .inr (.inl ⟨_, _, rfl⟩)
theorem Tp.dis_at : ∀ (ts : List Tp) (c : Sc) (before reps : List Int) (k : Nat), ∀ d ∈ Tp.dis c before reps k ts, (∃ (j : Nat) (u w : List Int), k ≤ j ∧ d.other = .at (before ++ (j : Int) :: u) (reps ++ w)) ∧ d.Good
  | [], c, before, reps, k, d, h => nomatch h
  | t :: ts, c, before, reps, k, d, h => by
    simp only [Tp.dis, List.mem_append] at h
    rcases h with h | h
    · obtain ⟨⟨u, w, e⟩, g⟩ := Tp.dis1_at t c (before ++ [(k : Int)]) reps d h
      exact ⟨⟨k, u, w, Nat.le_refl _, by rw [e]; simp⟩, g⟩
    · obtain ⟨⟨j, u, w, l, e⟩, g⟩ := Tp.dis_at ts c before reps (k + 1) d h
      exact ⟨⟨j, u, w, by omega, e⟩, g⟩
end
theorem nodup_flat {α : Type} {f : Nat → List α} (h1 : ∀ n, (f n).Nodup) (h2 : ∀ n m a, a ∈ f n → a ∈ f m → n = m) : ∀ r : Nat, ((List.range r).flatMap f).Nodup
  | 0 => by simp
  | r + 1 => by
    rw [List.range_succ, List.flatMap_append, List.nodup_append]
    refine ⟨nodup_flat h1 h2 r, by simpa using h1 r, fun a ha b hb z => ?_⟩
    subst z
    obtain ⟨n, hn, ha⟩ := List.mem_flatMap.mp ha
    obtain ⟨m, hm, hb⟩ := List.mem_flatMap.mp hb
    have := h2 n m a ha hb
    rw [List.mem_singleton.mp hm] at this
    have := List.mem_range.mp hn
    omega
theorem map_flat {α β : Type} (g : α → β) (f : Nat → List α) (l : List Nat) : (l.flatMap f).map g = l.flatMap fun n => (f n).map g := by
  rw [List.map_flatMap]
mutual
theorem Tp.dis1_nodup : ∀ (t : Tp) (c : Sc) (addr reps : List Int), ((t.dis1 c addr reps).map (·.other)).Nodup
  | .when e cs os, c, addr, reps => by
    simp only [Tp.dis1]
    split
    · exact Tp.dis_nodup os c (addr ++ [1]) reps 0
    · exact Tp.dis_nodup cs c (addr ++ [0]) reps 0
  | .each e cs, c, addr, reps => by
    simp only [Tp.dis1]
    rw [map_flat]
    refine nodup_flat (fun n => Tp.dis_nodup cs _ addr _ 0) (fun n m a ha hb => ?_) _
    obtain ⟨d, hd, rfl⟩ := List.mem_map.mp ha
    obtain ⟨d', hd', e'⟩ := List.mem_map.mp hb
    obtain ⟨⟨j, u, w, _, e1⟩, _⟩ := Tp.dis_at cs _ addr (reps ++ [(n : Int)]) 0 d hd
    obtain ⟨⟨j', u', w', _, e2⟩, _⟩ := Tp.dis_at cs _ addr (reps ++ [(m : Int)]) 0 d' hd'
    rw [e1, e2] at e'
    simp only [Nm.at.injEq, List.append_assoc, List.cons_append, List.nil_append] at e'
    have h := List.append_cancel_left e'.2
    simp only [List.cons.injEq] at h
    omega
  | .text _, c, addr, reps | .show _, c, addr, reps | .input _ _, c, addr, reps | .part _, c, addr, reps | .box _ _ _ _, c, addr, reps | .child _ _ _, c, addr, reps => by simp [Tp.dis1]
theorem Tp.dis_nodup : ∀ (ts : List Tp) (c : Sc) (before reps : List Int) (k : Nat), ((Tp.dis c before reps k ts).map (·.other)).Nodup
  | [], c, before, reps, k => by simp [Tp.dis]
  | t :: ts, c, before, reps, k => by
    simp only [Tp.dis, List.map_append]
    rw [List.nodup_append]
    refine ⟨Tp.dis1_nodup t c _ reps, Tp.dis_nodup ts c before reps (k + 1), fun a ha b hb z => ?_⟩
    subst z
    obtain ⟨d, hd, rfl⟩ := List.mem_map.mp ha
    obtain ⟨d', hd', e'⟩ := List.mem_map.mp hb
    obtain ⟨⟨u, w, e1⟩, _⟩ := Tp.dis1_at t c (before ++ [(k : Int)]) reps d hd
    obtain ⟨⟨j, u', w', l, e2⟩, _⟩ := Tp.dis_at ts c before reps (k + 1) d' hd'
    rw [e1, e2] at e'
    simp only [Nm.at.injEq, List.append_assoc, List.cons_append, List.nil_append] at e'
    have h := List.append_cancel_left e'.1
    simp only [List.cons.injEq] at h
    omega
end
mutual
theorem Tp.dis1_parts {own last : Nat} : ∀ {free : Bool} (t : Tp) (c : Sc) (addr reps : List Int), t.Ok own last free → List.Sublist (partsIn' (t.dis1 c addr reps)) t.pts
  | _, .when e cs os, c, addr, reps, h => by
    simp only [Tp.dis1]
    have h1 := Tp.dis_parts os c (addr ++ [1]) reps 0 h.2.2
    have h2 := Tp.dis_parts cs c (addr ++ [0]) reps 0 h.2.1
    simp only [Tp.pts]
    split
    · exact h1.trans (List.sublist_append_right _ _)
    · exact h2.trans (List.sublist_append_left _ _)
  | _, .each e cs, c, addr, reps, h => by
    simp only [Tp.dis1]
    have z : ∀ n : Nat, partsIn' (Tp.dis { c with index := (n : Int) } addr (reps ++ [(n : Int)]) 0 cs) = [] := fun n => by
      have h1 := Tp.dis_parts cs { c with index := (n : Int) } addr (reps ++ [(n : Int)]) 0 h.2
      rw [Tp.Oks.noparts (free := false) (by simp) cs h.2] at h1
      exact List.sublist_nil.mp h1
    have zz : ∀ l : List Nat, partsIn' (l.flatMap fun n : Nat => Tp.dis { c with index := (n : Int) } addr (reps ++ [(n : Int)]) 0 cs) = [] := fun l => by
      induction l with
      | nil => rfl
      | cons n l ih => rw [List.flatMap_cons, partsIn'_app, z, ih]; rfl
    rw [zz]
    exact List.nil_sublist _
  | _, .text _, c, addr, reps, h | _, .show _, c, addr, reps, h | _, .input _ _, c, addr, reps, h => by simp [Tp.dis1, partsIn', Dr.partOf, Tp.pts]
  | _, .part k, c, addr, reps, h => by simp [Tp.dis1, partsIn', Dr.partOf, Tp.pts]
  | _, .box _ key _ _, c, addr, reps, h => by
    cases key <;> simp [Tp.dis1, partsIn', Dr.partOf, keyNm]
  | _, .child _ key _, c, addr, reps, h => by
    cases key <;> simp [Tp.dis1, partsIn', Dr.partOf, keyNm]
theorem Tp.dis_parts {own last : Nat} : ∀ {free : Bool} (ts : List Tp) (c : Sc) (before reps : List Int) (k : Nat), Tp.Oks own last free ts → List.Sublist (partsIn' (Tp.dis c before reps k ts)) (Tp.ptss ts)
  | _, [], c, before, reps, k, _ => List.Sublist.refl _
  | _, t :: ts, c, before, reps, k, h => by
    simp only [Tp.dis, Tp.ptss]
    rw [partsIn'_app]
    exact (Tp.dis1_parts t c _ reps h.1).append (Tp.dis_parts ts c before reps (k + 1) h.2)
end
theorem dis_good {own last : Nat} {free : Bool} {ts : List Tp} (c : Sc) (h : Tp.Oks own last free ts) (hp : (Tp.ptss ts).Nodup) : RowGood (Tp.dis c [] [] 0 ts) :=
  ⟨fun d hd => (Tp.dis_at ts c [] [] 0 d hd).2, Tp.dis_nodup ts c [] [] 0, (Tp.dis_parts ts c [] [] 0 h).nodup hp⟩
theorem names_eq {own last : Nat} {free : Bool} {ts : List Tp} (c : Sc) (h : Tp.Oks own last free ts) (hp : (Tp.ptss ts).Nodup) :
    named [] (Tp.dis c [] [] 0 ts) = lawNamed [] (Tp.dis c [] [] 0 ts) ∧ ((lawNamed [] (Tp.dis c [] [] 0 ts)).map (·.1)).Nodup := by
  have := named_eq (Tp.dis c [] [] 0 ts) [] [] (dis_good c h hp) (by simp) (by simp) (by simp)
  simpa using this
end Pw
namespace Pw
open PySem PySem.Spec PyProof.Rows L2
mutual
def T.dat : T → PyData
  | .non => .none | .bl b => .bool b | .int i => .int i | .str s => .str s
  | .tup ts => .tuple (T.dats ts)
def T.dats : List T → List PyData
  | [] => []
  | t :: ts => t.dat :: T.dats ts
end
theorem dats_map : ∀ ts : List T, T.dats ts = ts.map T.dat
  | [] => rfl
  | t :: ts => by rw [T.dats, dats_map ts]; rfl
theorem beq_dec {α : Type} [DecidableEq α] [BEq α] [LawfulBEq α] (a b : α) : (a == b) = decide (a = b) := by
  by_cases h : a = b
  · subst h; simp
  · rw [decide_eq_false h]; simpa using h
mutual
theorem eqv_dat : ∀ a b : T, PyData.eqv a.dat b.dat = decide (a.nk = b.nk)
  | .non, b => by cases b <;> simp [T.dat, T.nk, PyData.eqv]
  | .bl x, b => by
    cases b with
    | bl y => cases x <;> cases y <;> rfl
    | int j => simp only [T.dat, T.nk, PyData.eqv, NestedKey.num.injEq]; exact beq_dec _ _
    | _ => simp [T.dat, T.nk, PyData.eqv]
  | .int i, b => by
    cases b with
    | bl y => simp only [T.dat, T.nk, PyData.eqv, NestedKey.num.injEq]; exact beq_dec _ _
    | int j => simp only [T.dat, T.nk, PyData.eqv, NestedKey.num.injEq]; exact beq_dec _ _
    | _ => simp [T.dat, T.nk, PyData.eqv]
  | .str s, b => by
    cases b with
    | str z => simp only [T.dat, T.nk, PyData.eqv, NestedKey.text.injEq]; exact beq_dec _ _
    | _ => simp [T.dat, T.nk, PyData.eqv]
  | .tup ts, b => by
    cases b with
    | tup us => simp only [T.dat, T.nk, PyData.eqv, eqv_dats ts us, NestedKey.tup.injEq]
    | _ => simp [T.dat, T.nk, PyData.eqv]
theorem eqv_dats : ∀ a b : List T, PyData.eqvAll (T.dats a) (T.dats b) = decide (T.nks a = T.nks b)
  | [], [] => rfl
  | [], _ :: _ => by simp [T.dats, T.nks, PyData.eqvAll]
  | _ :: _, [] => by simp [T.dats, T.nks, PyData.eqvAll]
  | x :: a, y :: b => by
    simp only [T.dats, T.nks, PyData.eqvAll, eqv_dat x y, eqv_dats a b, List.cons.injEq, Bool.decide_and]
end
section
variable {K : PySem.W.Frag} {H : Hp}
theorem dpAll_of {ts : List T} {xs : List V} (p : Paired (Dp K H) xs (ts.map T.dat)) : DpAll K H xs (ts.map T.dat) := by
  generalize ts.map T.dat = ds at p
  induction p with
  | nil => exact .nil
  | cons r _ ih => exact .cons r ih
theorem pair_dp : ∀ {ts : List T} {xs : List V}, xs.length = ts.length → (∀ (i : Nat) (t : T) (x : V), ts[i]? = some t → xs[i]? = some x → Dp K H x t.dat) → DpAll K H xs (T.dats ts)
  | [], [], _, _ => .nil
  | [], _ :: _, l, _ => by cases l
  | _ :: _, [], l, _ => by cases l
  | t :: ts, x :: xs, l, h => .cons (h 0 t x rfl rfl) (pair_dp (Nat.succ.inj l) fun i t' x' e1 e2 => h (i + 1) t' x' e1 e2)
theorem IsT.dp {t : T} {v : V} (h : IsT H t v) : Dp K H v t.dat := by
  induction h with
  | non => exact .non
  | bl b => exact .bl b
  | int i => exact .int i
  | str s => exact .str s
  | tup e l _ ih => exact .tup (SqT.of e) (pair_dp l ih)
theorem paired_dp : ∀ {ts : List T} {xs : List V}, Paired (IsT H) ts xs → DpAll K H xs (T.dats ts)
  | _, _, .nil => .nil
  | _, _, .cons r q => .cons r.dp (paired_dp q)
end
mutual
theorem dep_depth : ∀ {n : Nat} (t : T), Dep n t → t.dat.depth ≤ n
  | _, .non, h => Nat.zero_le _
  | _, .bl _, h => Nat.zero_le _
  | _, .int _, h => Nat.zero_le _
  | _, .str _, h => Nat.zero_le _
  | _, .tup ts, h => by
    cases h with
    | tup n _ _ q =>
      simp only [T.dat, PyData.depth]
      exact Nat.succ_le_succ (deps_depth ts q)
theorem deps_depth : ∀ {n : Nat} (ts : List T), (∀ t ∈ ts, Dep n t) → PyData.depthAll (T.dats ts) ≤ n
  | _, [], _ => Nat.zero_le _
  | n, t :: ts, h => by
    simp only [T.dats, PyData.depthAll]
    exact Nat.max_le.mpr ⟨dep_depth t (h t List.mem_cons_self), deps_depth ts fun u hu => h u (List.mem_cons_of_mem _ hu)⟩
end
mutual
/-- its texts are texts of Python -/
def T.sok : T → Bool
  | .str s => PyData.strOk s
  | .tup ts => T.soks ts
  | _ => true
def T.soks : List T → Bool
  | [] => true
  | t :: ts => t.sok && T.soks ts
end
mutual
theorem can_dat : ∀ t : T, t.sok = true → t.dat.canLay0 = true
  | .non, _ => rfl
  | .bl _, _ => rfl
  | .int _, _ => rfl
  | .str _, h => h
  | .tup ts, h => can_dats ts h
theorem can_dats : ∀ ts : List T, T.soks ts = true → PyData.canLayAll0 (T.dats ts) = true
  | [], _ => rfl
  | t :: ts, h => by
    simp only [T.soks, Bool.and_eq_true] at h
    simp only [T.dats, PyData.canLayAll0, can_dat t h.1, can_dats ts h.2, Bool.and_self]
end
/-- data that == and in may look at -/
structure T.Eqb (t : T) : Prop where
  d : Dep 60 t
  s : t.sok = true
theorem soks_of : ∀ {ts : List T}, (∀ t ∈ ts, t.Eqb) → T.soks ts = true
  | [], _ => rfl
  | t :: ts, h => by simp only [T.soks, (h t List.mem_cons_self).s, soks_of fun u hu => h u (List.mem_cons_of_mem _ hu), Bool.and_self]
theorem shaped_dat {t : T} (h : t.Eqb) : SeqAt.shaped t.dat = true := by
  unfold SeqAt.shaped
  rw [can_dat t h.s, Bool.true_and, decide_eq_true]
  have := dep_depth t h.d
  omega
theorem shaped_list {ts : List T} (h : ∀ t ∈ ts, t.Eqb) : SeqAt.shaped (.list (T.dats ts)) = true := by
  unfold SeqAt.shaped
  have := deps_depth ts fun t ht => (h t ht).d
  rw [decide_eq_true (by simp only [PyData.depth]; omega)]
  simp only [PyData.canLay0, can_dats ts (soks_of h), Bool.and_self]
def rInT (K : PySem.W.Frag) (neg : Bool) : R2 := fun x y H Q => ∃ (t : T) (ts : List T) (a : Addr) (xs : List V), IsT H t x ∧ y = .ref a ∧ SqL K H a xs ∧ Paired (IsT H) ts xs ∧ t.Eqb ∧ (∀ u ∈ ts, u.Eqb) ∧ Q (.bl (if neg then !decide (t.nk ∈ ts.map T.nk) else decide (t.nk ∈ ts.map T.nk))) H
theorem any_dats (t : T) : ∀ ts : List T, ((T.dats ts).any fun z => PyData.eqv z t.dat) = decide (t.nk ∈ ts.map T.nk)
  | [] => by simp [T.dats]
  | u :: ts => by
    rw [T.dats, List.any_cons, any_dats t ts, eqv_dat]
    simp only [List.map_cons, List.mem_cons, Bool.decide_or]
    congr 1
    exact decide_eq_decide.mpr ⟨fun h => h.symm, fun h => h.symm⟩
section
variable {X : Cx}
theorem op_inT (hu : X.A.units + 65 < cLine) : OpR X (compareOp .In) (rInT X.K false) := by
  intro pins s σ H x y v u Q I rx ry h
  obtain ⟨t, ts, a, xs, it, rfl, hs, hp, dt, dts, q⟩ := h
  refine op_inD hu pins s σ H _ _ v u Q I rx ry ⟨_, T.dats ts, it.dp, .lst hs (paired_dp hp), shaped_dat dt, shaped_list dts, ?_⟩
  rw [any_dats]
  exact q
theorem op_notInT (hu : X.A.units + 65 < cLine) : OpR X (compareOp .NotIn) (rInT X.K true) := by
  intro pins s σ H x y v u Q I rx ry h
  obtain ⟨t, ts, a, xs, it, rfl, hs, hp, dt, dts, q⟩ := h
  refine op_notInD hu pins s σ H _ _ v u Q I rx ry ⟨_, T.dats ts, it.dp, .lst hs (paired_dp hp), shaped_dat dt, shaped_list dts, ?_⟩
  rw [any_dats]
  exact q
def rEqT (neg : Bool) : R2 := fun x y H Q => ∃ t u : T, IsT H t x ∧ IsT H u y ∧ t.Eqb ∧ u.Eqb ∧ Q (.bl (if neg then !decide (t.nk = u.nk) else decide (t.nk = u.nk))) H
theorem op_eqT (hu : X.A.units + 65 < cLine) : OpR X (compareOp .Eq) (rEqT false) := by
  intro pins s σ H x y v u Q I rx ry h
  obtain ⟨t, t2, it, it2, dt, dt2, q⟩ := h
  refine op_eqD (by omega) pins s σ H _ _ v u Q I rx ry ⟨_, _, it.dp, it2.dp, shaped_dat dt, shaped_dat dt2, ?_⟩
  rw [eqv_dat]
  exact q
theorem op_neT (hu : X.A.units + 65 < cLine) : OpR X (compareOp .NotEq) (rEqT true) := by
  intro pins s σ H x y v u Q I rx ry h
  obtain ⟨t, t2, it, it2, dt, dt2, q⟩ := h
  refine op_neD (by omega) pins s σ H _ _ v u Q I rx ry ⟨_, _, it.dp, it2.dp, shaped_dat dt, shaped_dat dt2, ?_⟩
  rw [eqv_dat]
  exact q
end
end Pw
namespace Pw
open PySem PySem.Spec PyProof.Rows L2
theorem sl_take {K : PySem.W.Frag} {H : Hp} {a : Addr} {xs : List V} {n : Nat} {Q : VK} (ha : H a = some (.tup xs)) (q : ∀ (c : Addr) (H' : Hp), Oth [] H H' → H' c = some (.tup (xs.take n)) → Q (.ref c) H') : rSlA K (.ref a) none (some (n : Int)) H Q := by
  refine ⟨a, xs, rfl, SqT.of ha, fun h => ?_, fun h p hp => ?_⟩
  · have z := h.2
    rw [HT.sIx_nat] at z
    exact q a H Oth.refl (by rw [List.take_of_length_le (by omega)]; exact ha)
  · refine q p _ (Oth.new hp) ?_
    rw [upd_same]
    unfold cutV
    rw [HT.sIx_none, HT.sIx_nat, List.drop_zero, Nat.sub_zero]
    by_cases c : n ≤ xs.length
    · rw [Nat.min_eq_left c]
    · rw [Nat.min_eq_right (by omega), List.take_of_length_le (Nat.le_refl _), List.take_of_length_le (by omega)]
theorem sl_drop {K : PySem.W.Frag} {H : Hp} {a : Addr} {xs : List V} {n : Nat} {Q : VK} (ha : H a = some (.tup xs)) (hn : n ≤ xs.length) (q : ∀ (c : Addr) (H' : Hp), Oth [] H H' → H' c = some (.tup (xs.drop n)) → Q (.ref c) H') : rSlA K (.ref a) (some (n : Int)) none H Q := by
  refine ⟨a, xs, rfl, SqT.of ha, fun h => ?_, fun h p hp => ?_⟩
  · have z := h.1
    rw [HT.sIx_nat] at z
    have : n = 0 := by omega
    subst this
    exact q a H Oth.refl (by rw [List.drop_zero]; exact ha)
  · refine q p _ (Oth.new hp) ?_
    rw [upd_same]
    unfold cutV
    rw [HT.sIx_none, HT.sIx_nat, Nat.min_eq_left hn]
    rw [List.take_of_length_le (by rw [List.length_drop]; omega)]
theorem paired_take {H : Hp} : ∀ {ts : List T} {xs : List V}, Paired (IsT H) ts xs → ∀ n, Paired (IsT H) (ts.take n) (xs.take n)
  | _, _, .nil, n => by rw [List.take_nil, List.take_nil]; exact .nil
  | _, _, .cons h t, 0 => .nil
  | _, _, .cons h t, n + 1 => .cons h (paired_take t n)
/-- every template is a tuple that begins with its kind -/
def Tp.kind : Tp → Str
  | .text _ => "text" | .show _ => "show" | .box .. => "box" | .when .. => "when" | .each .. => "each" | .child .. => "child" | .part _ => "part" | .input .. => "input"
theorem Tp.kindAt {H : Hp} {v : V} : ∀ (t : Tp), IsT H t.toT v → ∃ a r, v = .ref a ∧ H a = some (.tup (.str t.kind :: r))
  | .text _, h => by obtain ⟨a, _, x, rfl, e, p, _⟩ := IsT.inv2 h; rw [p.of_str] at e; exact ⟨a, _, rfl, e⟩
  | .show _, h => by obtain ⟨a, _, x, rfl, e, p, _⟩ := IsT.inv2 h; rw [p.of_str] at e; exact ⟨a, _, rfl, e⟩
  | .box .., h => by obtain ⟨a, _, x, y, z, u, rfl, e, p, _⟩ := IsT.inv5 h; rw [p.of_str] at e; exact ⟨a, _, rfl, e⟩
  | .when .., h => by obtain ⟨a, _, x, y, z, rfl, e, p, _⟩ := IsT.inv4 h; rw [p.of_str] at e; exact ⟨a, _, rfl, e⟩
  | .each .., h => by obtain ⟨a, _, x, y, rfl, e, p, _⟩ := IsT.inv3 h; rw [p.of_str] at e; exact ⟨a, _, rfl, e⟩
  | .child .., h => by obtain ⟨a, _, x, y, z, rfl, e, p, _⟩ := IsT.inv4 h; rw [p.of_str] at e; exact ⟨a, _, rfl, e⟩
  | .part _, h => by obtain ⟨a, _, x, rfl, e, p, _⟩ := IsT.inv2 h; rw [p.of_str] at e; exact ⟨a, _, rfl, e⟩
  | .input .., h => by obtain ⟨a, _, x, y, rfl, e, p, _⟩ := IsT.inv3 h; rw [p.of_str] at e; exact ⟨a, _, rfl, e⟩
/-- when and each are no nodes -/
def Tp.node : Tp → Bool
  | .when .. => false | .each .. => false | _ => true
theorem Tp.dis1_node (t : Tp) (h : t.node = true) (c : Sc) (addr reps : List Int) : t.dis1 c addr reps = [⟨t.wish c addr reps, .at addr reps, t, c.index⟩] ∧ t.lk1 c = keyLooks c t.key? := by
  cases t <;> first | exact ⟨rfl, rfl⟩ | cases h
def Nm.short : Nm → Prop
  | .at t i => t.length ≤ 1000 ∧ i.length ≤ 1000
  | .key t _ => t.length ≤ 1000
  | .part _ => True
theorem ints_dep {ns : List Int} (h : ns.length ≤ 1000) (n : Nat) : Dep (n + 2) (intsT ns) := by
  refine .tup _ _ (by rw [List.length_map]; omega) fun t ht => ?_
  obtain ⟨i, _, rfl⟩ := List.mem_map.mp ht
  exact .int _ _
theorem Nm.dep {n : Nm} (h : n.short) (k : Nat) : Dep (k + 3) n.toT := by
  cases n with
  | «at» t i => exact .tup _ _ (by simp) (by simp only [List.mem_cons, List.not_mem_nil, or_false, forall_eq_or_imp, forall_eq]; exact ⟨.str _ _, ints_dep h.1 _, ints_dep h.2 _⟩)
  | key t v => exact .tup _ _ (by simp) (by simp only [List.mem_cons, List.not_mem_nil, or_false, forall_eq_or_imp, forall_eq]; exact ⟨.str _ _, ints_dep h _, .int _ _⟩)
  | part k => exact .tup _ _ (by simp) (by simp only [List.mem_cons, List.not_mem_nil, or_false, forall_eq_or_imp, forall_eq]; exact ⟨.str _ _, .int _ _⟩)
theorem ints_sok : ∀ ns : List Int, T.soks (ns.map .int) = true
  | [] => rfl
  | n :: ns => by simp only [List.map_cons, T.soks, ints_sok ns]; rfl
theorem Nm.sok (n : Nm) : n.toT.sok = true := by
  cases n with
  | «at» t i => simp only [Nm.toT, intsT, T.sok, T.soks, ints_sok]; decide +kernel
  | key t v => simp only [Nm.toT, intsT, T.sok, T.soks, ints_sok]; decide +kernel
  | part k => simp only [Nm.toT, T.sok, T.soks]; decide +kernel
theorem Nm.eqb {n : Nm} (h : n.short) : n.toT.Eqb := ⟨n.dep h 57, n.sok⟩
theorem nk_depths_int : ∀ ns : List Int, NestedKey.depthAll (T.nks (ns.map .int)) = 0
  | [] => rfl
  | n :: ns => by simp only [List.map_cons, T.nks, T.nk, NestedKey.depthAll, NestedKey.depth, nk_depths_int ns]; rfl
theorem Nm.nk_depth (n : Nm) : n.toT.nk.depth ≤ 8 := by
  cases n <;> simp [Nm.toT, intsT, T.nk, T.nks, NestedKey.depth, NestedKey.depthAll, nk_depths_int]
theorem ints_nob : ∀ ns : List Int, T.nobs (ns.map T.int) = true
  | [] => rfl
  | n :: ns => by simp only [List.map_cons, T.nobs, T.nob, ints_nob ns, Bool.and_self]
theorem Nm.nob (n : Nm) : n.toT.nob = true := by
  cases n <;> simp [Nm.toT, intsT, T.nob, T.nobs, ints_nob]
theorem Nm.nk_ref {H : Hp} {n : Nm} {v : V} (h : IsT H n.toT v) : ∃ b, v = .ref b ∧ NKey H n.toT.nk b := by
  have z := h
  cases n with
  | «at» t i => obtain ⟨b, xs, rfl, _⟩ := h.inv; exact ⟨b, rfl, _, rfl, z, Nm.nk_depth _, Nm.nob _⟩
  | key t i => obtain ⟨b, xs, rfl, _⟩ := h.inv; exact ⟨b, rfl, _, rfl, z, Nm.nk_depth _, Nm.nob _⟩
  | part t => obtain ⟨b, xs, rfl, _⟩ := h.inv; exact ⟨b, rfl, _, rfl, z, Nm.nk_depth _, Nm.nob _⟩
theorem mem_nks {n : Nm} {tk : List Nm} : (n.toT.nk ∈ (tk.map Nm.toT).map T.nk) ↔ n ∈ tk := by
  rw [List.map_map]
  constructor
  · intro h
    obtain ⟨m, hm, e⟩ := List.mem_map.mp h
    rw [← Nm.nk_inj e]
    exact hm
  · intro h
    exact List.mem_map.mpr ⟨n, h, rfl⟩
def spByKey : Sp := fun vs H Q _ => ∃ (key : Option E) (c : Sc) (addr reps : List Int) (vk vo vc : V) (l : Addr) (L : List V), vs = [vk, vo, vc, .ref l] ∧ IsT H (keyT key) vk ∧ IsT H (Nm.at addr reps).toT vo ∧ IsT H c.toT vc ∧ H l = some (.lst L) ∧
  (∀ e ∈ key, e.depth ≤ 3) ∧ L.length + ksz key ≤ 100000 ∧
  ∀ v H', IsT H' (keyNm c addr reps key).toT v → H' l = some (.lst (L ++ (keyLooks c key).map V.int)) → Oth [l] H H' → Q v H'
def spWished : Sp := fun vs H Q _ => ∃ (t : Tp) (c : Sc) (addr reps : List Int) (vt vo vc : V) (l : Addr) (L : List V), vs = [vt, vo, vc, .ref l] ∧ IsT H t.toT vt ∧ t.node = true ∧ IsT H (Nm.at addr reps).toT vo ∧ IsT H c.toT vc ∧ H l = some (.lst L) ∧
  t.Fine ∧ L.length + t.wt ≤ 100000 ∧
  ∀ v H', IsT H' (t.wish c addr reps).toT v → H' l = some (.lst (L ++ (keyLooks c t.key?).map V.int)) → Oth [l] H H' → Q v H'
def spDis (n : Nat) : Sp := fun vs H Q _ => ∃ (ts : List Tp) (c : Sc) (be re : List Int) (vt vb vr vc : V) (l : Addr) (L : List V), vs = [vt, vb, vr, vc, .ref l] ∧ IsT H (.tup (Tp.toTs ts)) vt ∧ IsT H (intsT be) vb ∧ IsT H (intsT re) vr ∧ IsT H c.toT vc ∧ H l = some (.lst L) ∧
  Tp.deps ts < n ∧ Tp.Fines ts ∧ L.length + Tp.wts ts ≤ 50000 ∧ be.length + 2 * n ≤ 1000 ∧ re.length + n ≤ 1000 ∧
  ∀ (p : Addr) (H' : Hp) (rs : List V), H p = none → H' p = some (.lst rs) → Paired (IsT H') ((Tp.dis c be re 0 ts).map Dr.toT) rs → H' l = some (.lst (L ++ (Tp.lks c ts).map V.int)) → Oth [l] H H' → Q (.ref p) H'
def itemT (x : Nm × Tp × Int) : T := .tup [x.1.toT, x.2.1.toT, .int x.2.2]
def spLayOut (n : Nat) : Sp := fun vs H Q _ => ∃ (ts : List Tp) (c : Sc) (vt vc : V) (l : Addr) (L : List V), vs = [vt, vc, .ref l] ∧ IsT H (.tup (Tp.toTs ts)) vt ∧ IsT H c.toT vc ∧ H l = some (.lst L) ∧
  Tp.deps ts < n ∧ Tp.Fines ts ∧ L.length + Tp.wts ts ≤ 50000 ∧
  ∀ (v : V) (H' : Hp), IsT H' (.tup ((named [] (Tp.dis c [] [] 0 ts)).map itemT)) v → H' l = some (.lst (L ++ (Tp.lks c ts).map V.int)) → Oth [l] H H' → Q v H'
def prefT (ts : List T) : T := .tup ((List.range ts.length).map fun k => .tup (ts.take k))
def spPartsOf : Sp := fun vs H Q _ => ∃ (ts : List T) (v : V), vs = [v] ∧ IsT H (.tup ts) v ∧ ts.length ≤ 1000 ∧
  ∀ r H', IsT H' (prefT ts) r → Oth [] H H' → Q r H'
/-- what is taken stands in the dict -/
def Takes' (kvs : List (NestedKey × V)) (tk : List Nm) : Prop := ∀ n : Nm, (valV kvs n.toT.nk).isSome = decide (n ∈ tk)
theorem Takes'.put {kvs : List (NestedKey × V)} {tk : List Nm} (h : Takes' kvs tk) (n : Nm) (v : V) : Takes' (putK kvs n.toT.nk v) (tk ++ [n]) := fun m => by
  rw [valV_put]
  by_cases e : m.toT.nk = n.toT.nk
  · rw [if_pos e, Nm.nk_inj e]
    simp
  · rw [if_neg e, h m]
    have : m ≠ n := fun z => e (by rw [z])
    simp [this]
end Pw
namespace Pw
open PySem PySem.Spec PyProof.Rows L2
theorem wts_take {ts : List Tp} {i : Nat} {t : Tp} (h : ts[i]? = some t) : Tp.wts (ts.take i) + t.wt ≤ Tp.wts ts := by
  have hi : i < ts.length := (List.getElem?_eq_some_iff.mp h).1
  have e3 : t = ts[i] := by rw [List.getElem?_eq_getElem hi] at h; exact (Option.some.inj h).symm
  have e1 : ts = ts.take i ++ t :: ts.drop (i + 1) := by rw [e3, ← List.drop_eq_getElem_cons hi, List.take_append_drop]
  have e4 := congrArg Tp.wts e1
  rw [wts_app, Tp.wts] at e4
  omega
theorem node_kind {t : Tp} (h : t.node = true) : ("when" : Str) ≠ t.kind ∧ ("each" : Str) ≠ t.kind := by
  cases t <;> first | (exact Bool.noConfusion h) | exact ⟨by simp only [Tp.kind]; decide, by simp only [Tp.kind]; decide⟩
theorem Sc.parts {H : Hp} {c : Sc} {v : V} (h : IsT H c.toT v) : ∃ sc ac ap as, v = .ref sc ∧ H sc = some (.tup [.str "scope", .ref ac, .ref ap, .ref as, .int c.index]) ∧ H ac = some (.tup (c.cells.map V.int)) ∧ H ap = some (.tup (c.props.map V.int)) ∧ H as = some (.tup (c.store.map V.int)) := by
  obtain ⟨sc, _, v1, v2, v3, _, rfl, hsc, r0, r1, r2, r3, r4⟩ := IsT.inv5 h
  obtain rfl := r0.of_str
  obtain rfl := r4.of_int
  obtain ⟨ac, rfl, hac⟩ := r1.ints
  obtain ⟨ap, rfl, hap⟩ := r2.ints
  obtain ⟨as, rfl, has⟩ := r3.ints
  exact ⟨sc, ac, ap, as, rfl, hsc, hac, hap, has⟩
theorem Sc.mk' {H : Hp} {c : Sc} {sc ac ap as : Addr} (hsc : H sc = some (.tup [.str "scope", .ref ac, .ref ap, .ref as, .int c.index])) (hac : H ac = some (.tup (c.cells.map V.int))) (hap : H ap = some (.tup (c.props.map V.int))) (has : H as = some (.tup (c.store.map V.int))) : IsT H c.toT (.ref sc) :=
  .mk5 hsc (.str _) (.mkI hac) (.mkI hap) (.mkI has) (.int _)
theorem flat_succ {α : Type} (f : Nat → List α) (j : Nat) : (List.range (j + 1)).flatMap f = (List.range j).flatMap f ++ f j := by
  rw [List.range_succ, List.flatMap_append]
  simp
theorem dis_take {c : Sc} {be re : List Int} {ts : List Tp} {i : Nat} {t : Tp} (h : ts[i]? = some t) : Tp.dis c be re 0 (ts.take (i + 1)) = Tp.dis c be re 0 (ts.take i) ++ t.dis1 c (be ++ [(i : Int)]) re := by
  have hi : i < ts.length := (List.getElem?_eq_some_iff.mp h).1
  rw [take_snoc h, Tp.dis_app]
  have hl : (ts.take i).length = i := by rw [List.length_take]; omega
  simp only [Tp.dis, List.append_nil, hl, Nat.zero_add]
theorem lks_take {c : Sc} {ts : List Tp} {i : Nat} {t : Tp} (h : ts[i]? = some t) : Tp.lks c (ts.take (i + 1)) = Tp.lks c (ts.take i) ++ t.lk1 c := by
  rw [take_snoc h, Tp.lks_app]
  simp only [Tp.lks, List.append_nil]
theorem take_map {α β : Type} {f : α → β} {l : List α} {i : Nat} {x : β} (h : (l.map f)[i]? = some x) : ∃ u, l[i]? = some u ∧ f u = x := by
  rw [List.getElem?_map] at h
  cases g : l[i]? with
  | none => rw [g] at h; cases h
  | some u => rw [g] at h; exact ⟨u, rfl, Option.some.inj h⟩
theorem ifx {b : Bool} {σ : L2.St} {H : Hp} {Q : VK} {i j : Nat} {v1 v2 : V} (h1 : σ[i]? = some (some v1)) (h2 : σ[j]? = some (some v2)) (q : Q (if b = true then v1 else v2) H) : if b = true then tVar i σ H Q else tVar j σ H Q := by
  cases b with
  | true => exact iteT ⟨_, h1, q⟩
  | false => exact iteF ⟨_, h2, q⟩
theorem named_take {ds : List Dr} {i : Nat} {d : Dr} (h : ds[i]? = some d) : named [] (ds.take (i + 1)) = named [] (ds.take i) ++ [(if d.wish ∈ (named [] (ds.take i)).map (·.1) then d.other else d.wish, d.tp, d.idx)] := by
  rw [take_snoc h, named_app]
  simp [named]
theorem wt_pos (t : Tp) : 1 ≤ t.wt := by cases t <;> simp [Tp.wt]
theorem wts_len : ∀ ts : List Tp, ts.length ≤ Tp.wts ts
  | [] => Nat.le_refl _
  | t :: ts => by have := wt_pos t; have := wts_len ts; simp only [List.length_cons, Tp.wts]; omega
theorem Room.units65 {k : Nat} {A : Around} (r : Room k A) : A.units + 65 < cLine := by have := r.un; omega
end Pw
namespace Pw
open PySem PySem.Spec PyProof.Rows L2
def LItem (H : Hp) (x : Nm × Tp × Int) (v : V) : Prop := ∃ a n r, v = .ref a ∧ H a = some (.lst [n, r, .int x.2.2]) ∧ IsT H x.1.toT n ∧ IsT H x.2.1.toT r
def Fresh (H : Hp) (vs : List V) : Prop := ∀ v ∈ vs, ∃ a, v = .ref a ∧ H a = none
abbrev LItems (H : Hp) : List (Nm × Tp × Int) → List V → Prop := Paired (LItem H)
theorem LItem.oth {H H' : Hp} {S : List Addr} {x : Nm × Tp × Int} {v : V} (h : LItem H x v) (o : Oth S H H') (hn : ∀ a ∈ S, v ≠ .ref a) : LItem H' x v := by
  obtain ⟨a, n, r, rfl, e, i1, i2⟩ := h
  exact ⟨a, n, r, rfl, o.keep a _ (fun z => hn a z rfl) e, i1.oth o, i2.oth o⟩
theorem LItems.oth {H H' : Hp} {S : List Addr} (o : Oth S H H') : ∀ {xs : List (Nm × Tp × Int)} {vs : List V}, LItems H xs vs → (∀ v ∈ vs, ∀ a ∈ S, v ≠ .ref a) → LItems H' xs vs
  | _, _, .nil, _ => .nil
  | _, _, .cons h t, hn => .cons (h.oth o (hn _ List.mem_cons_self)) (LItems.oth o t fun v hv => hn v (List.mem_cons_of_mem _ hv))
theorem LItems.len {H : Hp} : ∀ {xs : List (Nm × Tp × Int)} {vs : List V}, LItems H xs vs → vs.length = xs.length
  | _, _, .nil => rfl
  | _, _, .cons _ t => congrArg (· + 1) (LItems.len t)
theorem LItems.get {H : Hp} : ∀ {xs : List (Nm × Tp × Int)} {vs : List V}, LItems H xs vs → ∀ {i : Nat} {v : V}, vs[i]? = some v → ∃ x, xs[i]? = some x ∧ LItem H x v
  | _, _, .cons h t, 0, v, e => by cases e; exact ⟨_, rfl, h⟩
  | _, _, .cons h t, i + 1, v, e => LItems.get t e
theorem Fresh.ne {H : Hp} {vs : List V} {b : Addr} {o : HO} (h : Fresh H vs) (hb : H b = some o) : ∀ v ∈ vs, v ≠ .ref b := fun v hv z => by
  obtain ⟨a, rfl, e⟩ := h v hv
  cases z
  rw [hb] at e
  cases e
theorem LItems.ne_self {H : Hp} {xs : List (Nm × Tp × Int)} {vs : List V} {r : Addr} {H0 : Hp} (h : LItems H xs vs) (hr : H r = some (.lst vs)) (f : Fresh H0 vs) : ∀ v ∈ vs, v ≠ .ref r := fun v hv z => by
  subst z
  obtain ⟨i, hi, e⟩ := List.getElem_of_mem hv
  obtain ⟨x, _, a, n, q, ea, e2, _⟩ := h.get (List.getElem?_eq_getElem hi |>.trans (by rw [e]))
  cases ea
  rw [hr] at e2
  injection e2 with e2
  injection e2 with e2
  obtain ⟨a, ha, _⟩ := f (.int x.2.2) (by rw [e2]; simp)
  cases ha
theorem names_app (tk : List Nm) (a r : List Dr) : tk ++ (lawNamed tk (a ++ r)).map (·.1) = tk ++ (lawNamed tk a).map (·.1) ++ (lawNamed (tk ++ (lawNamed tk a).map (·.1)) r).map (·.1) := by
  rw [lawNamed_app, List.map_append, List.append_assoc]
structure LSt (H : Hp) (l nl : Addr) (L : List V) (tk : List Nm) (H1 : Hp) (r : Addr) (ds : List Dr) (lk : List Int) : Prop where
  rn : H r = none
  o : Oth [l, nl] H H1
  ex : ∃ rs nL, H1 r = some (.lst rs) ∧ Fresh H rs ∧ LItems H1 (lawNamed tk ds) rs ∧ H1 nl = some (.lst nL) ∧ Paired (IsT H1) ((tk ++ (lawNamed tk ds).map (·.1)).map Nm.toT) nL
  lk : H1 l = some (.lst (L ++ lk.map V.int))
  sh : ∀ n ∈ tk ++ (lawNamed tk ds).map (·.1), n.short
section
variable {H H1 H2 H3 : Hp} {l nl r p q : Addr} {L : List V} {tk : List Nm} {ds ds2 : List Dr} {lk lk2 : List Int}
theorem LSt.ln (s : LSt H l nl L tk H1 r ds lk) (hl : H l ≠ none) : r ≠ l := fun e => hl (e ▸ s.rn)
theorem LSt.nn (s : LSt H l nl L tk H1 r ds lk) (hl : H nl ≠ none) : r ≠ nl := fun e => hl (e ▸ s.rn)
theorem LSt.back (s : LSt H l nl L tk H1 r ds lk) {a : Addr} (h : H1 a = none) : H a = none := by
  obtain ⟨rs, nL, _, _, _, e, _⟩ := s.ex
  cases h' : H a with
  | none => rfl
  | some o =>
    by_cases z : a ∈ [l, nl]
    · simp only [List.mem_cons, List.not_mem_nil, or_false] at z
      rcases z with rfl | rfl
      · rw [s.lk] at h; cases h
      · rw [e] at h; cases h
    · rw [s.o.keep a o z h'] at h; cases h
theorem LSt.oth (s : LSt H l nl L tk H1 r ds lk) (o : Oth [] H1 H2) : LSt H l nl L tk H2 r ds lk := by
  obtain ⟨rs, nL, e1, f, it, e2, pn⟩ := s.ex
  exact ⟨s.rn, s.o.trans (o.mono (by simp)), ⟨rs, nL, o.keep _ _ (by simp) e1, f, it.oth o (by simp), o.keep _ _ (by simp) e2, paired_oth pn o⟩, o.keep _ _ (by simp) s.lk, s.sh⟩
theorem LSt.look (s : LSt H l nl L tk H1 r ds lk) (hl : H l ≠ none) (hne : l ≠ nl) (o : Oth [l] H1 H2) (e : H2 l = some (.lst (L ++ lk.map V.int ++ lk2.map V.int))) : LSt H l nl L tk H2 r ds (lk ++ lk2) := by
  obtain ⟨rs, nL, e1, f, it, e2, pn⟩ := s.ex
  obtain ⟨ol, hol⟩ : ∃ x, H l = some x := by
    cases h : H l with
    | none => exact absurd h hl
    | some x => exact ⟨x, rfl⟩
  exact ⟨s.rn, s.o.trans (o.mono (by simp)), ⟨rs, nL, o.keep _ _ (by simp [s.ln hl]) e1, f, it.oth o (fun v hv a ha => by rw [List.mem_singleton.mp ha]; exact f.ne hol v hv), o.keep _ _ (by simp [hne.symm]) e2, paired_oth pn o⟩, by rw [e, List.map_append, List.append_assoc], s.sh⟩
/-- behind a call for more rows, these added -/
theorem LSt.cat (s : LSt H l nl L tk H1 r ds lk) (hl : H l ≠ none) (hnl : H nl ≠ none) {rs rs2 nL2 : List V} (hr : H1 r = some (.lst rs)) (hfr : Fresh H rs) (hit : LItems H1 (lawNamed tk ds) rs)
    (f2 : Fresh H1 rs2) (it2 : LItems H2 (lawNamed (tk ++ (lawNamed tk ds).map (·.1)) ds2) rs2) (hl2 : H2 l = some (.lst (L ++ lk.map V.int ++ lk2.map V.int)))
    (hnl2 : H2 nl = some (.lst nL2)) (pn2 : Paired (IsT H2) ((tk ++ (lawNamed tk ds).map (·.1) ++ (lawNamed (tk ++ (lawNamed tk ds).map (·.1)) ds2).map (·.1)).map Nm.toT) nL2)
    (sh2 : ∀ n ∈ (lawNamed (tk ++ (lawNamed tk ds).map (·.1)) ds2).map (·.1), n.short) (o : Oth [l, nl] H1 H2) (hq : H2 q = none) :
    LSt H l nl L tk (upd H2 q (.lst (rs ++ rs2))) q (ds ++ ds2) (lk ++ lk2) := by
  have on := Oth.new (S := []) (o := .lst (rs ++ rs2)) hq
  obtain ⟨ol, hol⟩ : ∃ x, H l = some x := by
    cases h : H l with
    | none => exact absurd h hl
    | some x => exact ⟨x, rfl⟩
  obtain ⟨onl, honl⟩ : ∃ x, H nl = some x := by
    cases h : H nl with
    | none => exact absurd h hnl
    | some x => exact ⟨x, rfl⟩
  have hq1 : H1 q = none := by
    cases h : H1 q with
    | none => rfl
    | some x =>
      by_cases z : q ∈ [l, nl]
      · simp only [List.mem_cons, List.not_mem_nil, or_false] at z
        rcases z with rfl | rfl
        · rw [hl2] at hq; cases hq
        · rw [hnl2] at hq; cases hq
      · rw [o.keep q x z h] at hq; cases hq
  have hlq : l ≠ q := ne_of_none hl2 hq
  have hnq : nl ≠ q := ne_of_none hnl2 hq
  refine ⟨s.back hq1, s.o.trans (o.trans (on.mono (by simp))), ⟨rs ++ rs2, nL2, upd_same, ?_, ?_, on.keep _ _ (by simp) hnl2, ?_⟩, ?_, ?_⟩
  · intro v hv
    rcases List.mem_append.mp hv with h | h
    · exact hfr v h
    · obtain ⟨a, rfl, e⟩ := f2 v h
      exact ⟨a, rfl, s.back e⟩
  · rw [lawNamed_app]
    refine Paired.appendP ((hit.oth o fun v hv a ha => ?_).oth on (by simp)) (it2.oth on (by simp))
    simp only [List.mem_cons, List.not_mem_nil, or_false] at ha
    rcases ha with rfl | rfl
    · exact hfr.ne hol v hv
    · exact hfr.ne honl v hv
  · rw [names_app]
    exact paired_oth pn2 on
  · rw [List.map_append, ← List.append_assoc]
    exact on.keep _ _ (by simp) hl2
  · rw [names_app]
    intro n hn
    rcases List.mem_append.mp hn with h | h
    · exact s.sh n h
    · exact sh2 n h
/-- one more -/
theorem LSt.one (s : LSt H l nl L tk H1 r ds lk) (hl : H l ≠ none) (hnl : H nl ≠ none) (hne : l ≠ nl) {rs nL : List V} {d : Dr} {nv rv : V} (hr : H1 r = some (.lst rs)) (hfr : Fresh H rs) (hit : LItems H1 (lawNamed tk ds) rs)
    (hnL : H1 nl = some (.lst nL)) (pn : Paired (IsT H1) ((tk ++ (lawNamed tk ds).map (·.1)).map Nm.toT) nL) (tn : IsT H1 (lawName (tk ++ (lawNamed tk ds).map (·.1)) d).toT nv) (tr : IsT H1 d.tp.toT rv)
    (hs : (lawName (tk ++ (lawNamed tk ds).map (·.1)) d).short)
    (hq : (upd H1 nl (.lst (nL ++ [nv]))) q = none) :
    LSt H l nl L tk (upd (upd (upd H1 nl (.lst (nL ++ [nv]))) q (.lst [nv, rv, .int d.idx])) r (.lst (rs ++ [.ref q]))) r (ds ++ [d]) lk := by
  have o1 : Oth [nl] H1 (upd H1 nl (.lst (nL ++ [nv]))) := Oth.put (by simp) hnL
  have o2 := Oth.new (S := []) (o := .lst [nv, rv, .int d.idx]) hq
  have nrn := s.nn hnl
  have nrl := s.ln hl
  have hr2 : (upd (upd H1 nl (.lst (nL ++ [nv]))) q (.lst [nv, rv, .int d.idx])) r = some (.lst rs) := o2.keep _ _ (by simp) (o1.keep _ _ (by simp [nrn]) hr)
  have o3 : Oth [r] _ (upd (upd (upd H1 nl (.lst (nL ++ [nv]))) q (.lst [nv, rv, .int d.idx])) r (.lst (rs ++ [.ref q]))) := Oth.put (by simp) hr2
  have nqr : q ≠ r := fun e => by
    rw [← e] at hr
    by_cases z : q = nl
    · rw [z, upd_same] at hq; cases hq
    · rw [upd_ne z, hr] at hq; cases hq
  have nqn : nl ≠ q := fun e => by rw [← e, upd_same] at hq; cases hq
  have hq1 : H1 q = none := by rw [upd_ne nqn.symm] at hq; exact hq
  have nql : l ≠ q := ne_of_none s.lk hq1
  obtain ⟨onl, honl⟩ : ∃ x, H nl = some x := by
    cases h : H nl with
    | none => exact absurd h hnl
    | some x => exact ⟨x, rfl⟩
  have self := hit.ne_self hr hfr
  refine ⟨s.rn, ?_, ⟨rs ++ [.ref q], nL ++ [nv], upd_same, ?_, ?_, ?_, ?_⟩, ?_, ?_⟩
  · have z : Oth [l, nl, r] H (upd (upd (upd H1 nl (.lst (nL ++ [nv]))) q (.lst [nv, rv, .int d.idx])) r (.lst (rs ++ [.ref q]))) :=
      (s.o.mono (by simp)).trans ((o1.mono (by simp)).trans ((o2.mono (by simp)).trans (o3.mono (by simp))))
    exact Oth.drop (p := r) (z.mono (by simp)) s.rn
  · intro v hv
    rcases List.mem_append.mp hv with h | h
    · exact hfr v h
    · rw [List.mem_singleton.mp h]
      exact ⟨q, rfl, s.back hq1⟩
  · rw [lawNamed_app]
    refine Paired.appendP (((hit.oth o1 fun v hv a ha => by rw [List.mem_singleton.mp ha]; exact hfr.ne honl v hv).oth o2 (by simp)).oth o3 fun v hv a ha => by rw [List.mem_singleton.mp ha]; exact self v hv) ?_
    exact .cons ⟨q, nv, rv, rfl, o3.keep _ _ (by simp [nqr]) upd_same, ((tn.oth o1).oth o2).oth o3, ((tr.oth o1).oth o2).oth o3⟩ .nil
  · exact o3.keep _ _ (by simp [nrn.symm]) (o2.keep _ _ (by simp) upd_same)
  · rw [names_app, List.map_append]
    exact paired_app (paired_oth (paired_oth (paired_oth pn o1) o2) o3) (.cons (((tn.oth o1).oth o2).oth o3) .nil)
  · exact o3.keep _ _ (by simp [nrl.symm]) (o2.keep _ _ (by simp) (o1.keep _ _ (by simp [hne]) s.lk))
  · rw [names_app]
    intro n hn
    rcases List.mem_append.mp hn with h | h
    · exact s.sh n h
    · simp only [lawNamed, List.map_cons, List.map_nil, List.mem_singleton] at h
      rw [h]
      exact hs
end
def spLawLay (n : Nat) : Sp := fun vs H Q _ => ∃ (ts : List Tp) (c : Sc) (be re : List Int) (tk : List Nm) (vt va vr : V) (s sa sp ss l nl : Addr) (L nL : List V), vs = [vt, .ref s, .ref l, va, vr, .ref nl] ∧ IsT H (.tup (Tp.toTs ts)) vt ∧ IsT H (intsT be) va ∧ IsT H (intsT re) vr ∧
  H s = some (.lst [.ref sa, .ref sp, .ref ss, .int c.index]) ∧ H sa = some (.tup (c.cells.map V.int)) ∧ H sp = some (.tup (c.props.map V.int)) ∧ H ss = some (.tup (c.store.map V.int)) ∧ H l = some (.lst L) ∧ H nl = some (.lst nL) ∧ Paired (IsT H) (tk.map Nm.toT) nL ∧ (∀ n ∈ tk, n.short) ∧
  s ≠ l ∧ s ≠ nl ∧ l ≠ nl ∧ Tp.deps ts < n ∧ Tp.Fines ts ∧ L.length + Tp.wts ts ≤ 50000 ∧ nL.length + Tp.wts ts ≤ 50000 ∧ be.length + 2 * n ≤ 900 ∧ re.length + n ≤ 900 ∧
  ∀ (p : Addr) (H' : Hp) (rs nL' : List V), H p = none → H' p = some (.lst rs) → Fresh H rs → LItems H' (lawNamed tk (Tp.dis c be re 0 ts)) rs → H' l = some (.lst (L ++ (Tp.lks c ts).map V.int)) → H' nl = some (.lst nL') →
    Paired (IsT H') ((tk ++ (lawNamed tk (Tp.dis c be re 0 ts)).map (·.1)).map Nm.toT) nL' → (∀ n ∈ (lawNamed tk (Tp.dis c be re 0 ts)).map (·.1), n.short) → Oth [l, nl] H H' → Q (.ref p) H'
theorem lay_sub {n : Nat} {H H5 : Hp} {l nl r : Addr} {L : List V} {tk : List Nm} {ds : List Dr} {lk : List Int} (st : LSt H l nl L tk H5 r ds lk) (hln : H l ≠ none) (hnn : H nl ≠ none) (nln : l ≠ nl)
    {bs : List Tp} {c : Sc} {be re : List Int} {vb va vr : V} {s sa sp ss : Addr} {Q : VK} {E : XK} (tb : IsT H5 (.tup (Tp.toTs bs)) vb) (ta : IsT H5 (intsT be) va) (tr : IsT H5 (intsT re) vr)
    (esc : H5 s = some (.lst [.ref sa, .ref sp, .ref ss, .int c.index])) (esa : H5 sa = some (.tup (c.cells.map V.int))) (esp : H5 sp = some (.tup (c.props.map V.int))) (ess : H5 ss = some (.tup (c.store.map V.int))) (nsl : s ≠ l) (nsn : s ≠ nl)
    (hd : Tp.deps bs < n) (hf : Tp.Fines bs) (hz : L.length + lk.length + Tp.wts bs ≤ 50000) (hzn : tk.length + ds.length + Tp.wts bs ≤ 50000) (hbe : be.length + 2 * n ≤ 900) (hre : re.length + n ≤ 900)
    (q : ∀ (p : Addr) (H9 : Hp), LSt H l nl L tk H9 p (ds ++ Tp.dis c be re 0 bs) (lk ++ Tp.lks c bs) → Oth [l, nl] H5 H9 → Q (.ref p) H9) :
    spLawLay n [vb, .ref s, .ref l, va, vr, .ref nl] H5 (fun y H7 => rCat (.ref r) y H7 Q) E := by
  obtain ⟨rs, nL, er, fr, it, enl, pn⟩ := st.ex
  have lnL : nL.length = tk.length + ds.length := by rw [(paired_get pn).1, List.length_map, List.length_append, List.length_map, lawNamed_len]
  have lrs : rs.length = ds.length := by rw [it.len, lawNamed_len]
  refine ⟨bs, c, be, re, _, _, _, _, s, sa, sp, ss, l, nl, _, nL, rfl, tb, ta, tr, esc, esa, esp, ess, st.lk, enl, pn, st.sh, nsl, nsn, nln, hd, hf, by rw [List.length_append, List.length_map]; omega, by omega, hbe, hre, fun p H7 rs2 nL2 hp e7 f7 it7 l7 n7 pn7 sh7 o7 => ?_⟩
  have er7 := o7.keep r _ (by simp [st.ln hln, st.nn hnn]) er
  have l2 : rs2.length ≤ Tp.wts bs := by rw [it7.len, lawNamed_len]; exact Tp.dis_len _ _ _ _ _
  refine ⟨r, p, rs, rs2, rfl, rfl, er7, e7, Nat.le_trans (by omega : rs.length + rs2.length ≤ 50000) (by decide), fun p8 hp8 => ?_⟩
  exact q p8 _ (st.cat hln hnn er fr it f7 it7 l7 n7 pn7 sh7 o7 hp8) (o7.trans (Oth.new hp8))
end Pw
namespace Pw
open PySem PySem.Spec PyProof.Rows L2
theorem IsT.nats {H : Hp} {v : V} {ns : List Nat} (h : IsT H (natsT ns) v) : ∃ a, v = .ref a ∧ H a = some (.tup (ns.map natV)) := by
  obtain ⟨a, xs, rfl, e, p⟩ := h.inv
  have : ∀ {ns : List Nat} {xs : List V}, Paired (IsT H) (ns.map natT) xs → xs = ns.map natV := fun {ns} => by
    induction ns with
    | nil => intro xs p; cases p; rfl
    | cons n ns ih =>
      intro xs p
      cases p with
      | cons r q => cases r; rw [ih q]; rfl
  rw [this p] at e
  exact ⟨a, rfl, e⟩
theorem Pq.inv {H : Hp} {v : V} {p : Pq} (h : IsT H p.toT v) : ∃ (a c s q : Addr) (cs : List V), v = .ref a ∧ H a = some (.tup [.str "program", .ref c, .ref s, .ref q]) ∧ H c = some (.tup cs) ∧ Paired (IsT H) (p.comps.map Cq.toT) cs ∧ H s = some (.tup (p.store.map natV)) ∧ H q = some (.tup (p.parts.map natV)) := by
  obtain ⟨a, _, x, y, z, rfl, e, p1, p2, p3, p4⟩ := IsT.inv4 h
  obtain rfl := p1.of_str
  obtain ⟨c, cs, rfl, ec, pc⟩ := p2.inv
  obtain ⟨s, rfl, es⟩ := p3.nats
  obtain ⟨q, rfl, eq⟩ := p4.nats
  exact ⟨a, c, s, q, cs, rfl, e, ec, pc, es, eq⟩
theorem Cq.inv {H : Hp} {v : V} {c : Cq} (h : IsT H c.toT v) : ∃ (a x : Addr) (y z : V), v = .ref a ∧ H a = some (.tup [.str "component", .ref x, y, z]) ∧ H x = some (.tup (c.cells.map natV)) ∧ IsT H (.tup (Tp.toTs c.cs)) y ∧ IsT H (actsT c.acts) z := by
  obtain ⟨a, _, x, y, z, rfl, e, p1, p2, p3, p4⟩ := IsT.inv4 h
  obtain rfl := p1.of_str
  obtain ⟨c, rfl, ec⟩ := p2.nats
  exact ⟨a, c, y, z, rfl, e, ec, p3, p4⟩
def intsOf (ns : List Nat) : List Int := ns.map Int.ofNat
theorem ints_map (ns : List Nat) : (intsOf ns).map V.int = ns.map natV := by unfold intsOf; rw [List.map_map]; rfl
theorem natsT_intsOf (ns : List Nat) : natsT ns = .tup ((intsOf ns).map .int) := by unfold intsOf natsT; rw [List.map_map]; rfl
def spLawY (K : PySem.W.Frag) : Sp := fun vs H Q _ => ∃ (a : Addr) (ns : List Int), vs = [.ref a] ∧ SqL K H a (ns.map V.int) ∧ ns.length ≤ 63 ∧ ∀ H', Q (.bl true) H'
theorem sl_takeL {K : PySem.W.Frag} {H : Hp} {a : Addr} {xs : List V} {n : Nat} {Q : VK} (ha : H a = some (.lst xs)) (q : ∀ (c : Addr) (H' : Hp), H c = none → Oth [] H H' → H' c = some (.lst (xs.take n)) → Q (.ref c) H') : rSlL K (.ref a) none (some (n : Int)) H Q := by
  refine ⟨a, xs, rfl, SqL.of ha, fun p hp => q p _ hp (Oth.new hp) ?_⟩
  rw [upd_same]
  unfold cutV
  rw [HT.sIx_none, HT.sIx_nat, List.drop_zero, Nat.sub_zero]
  by_cases c : n ≤ xs.length
  · rw [Nat.min_eq_left c]
  · rw [Nat.min_eq_right (by omega), List.take_of_length_le (Nat.le_refl _), List.take_of_length_le (by omega)]
theorem nats_eqv (ns : List Int) : PyData.eqv (.list (T.dats (ns.map .int))) (.list (T.dats (ns.map .int))) = true := by
  simp [PyData.eqv, eqv_dats]
theorem ints_shaped (ns : List Int) : SeqAt.shaped (.list (T.dats (ns.map .int))) = true := by
  refine shaped_list fun t ht => ?_
  obtain ⟨i, _, rfl⟩ := List.mem_map.mp ht
  exact ⟨.int _ _, rfl⟩
theorem ne_ints {K : PySem.W.Frag} {H : Hp} {a b : Addr} {ns : List Int} {Q : VK} (ha : H a = some (.lst (ns.map V.int))) (hb : H b = some (.lst (ns.map V.int))) (q : Q (.bl false) H) : rNeD K (.ref a) (.ref b) H Q := by
  refine ⟨_, _, .lst (SqL.of ha) (paired_dp (int_paired ns)), .lst (SqL.of hb) (paired_dp (int_paired ns)), ints_shaped ns, ints_shaped ns, ?_⟩
  rw [nats_eqv]
  exact q
theorem Tp.item_dep {ts : List Tp} {t : Tp} {n : Nm} {i : Int} (hn : n.short) (hd : t.dep ≤ 3) (hf : t.Fine) (hc : t.cnt ≤ 5000) (k : Nat) : Dep (14 + k) (itemT (n, t, i)) := by
  rw [show 14 + k = (13 + k) + 1 by omega]
  refine .tup _ _ (by simp) ?_
  simp only [List.mem_cons, List.not_mem_nil, or_false, forall_eq_or_imp, forall_eq]
  exact ⟨(Nm.dep hn (10 + k)).mono (by omega), (Tp.dep_ok t hf hc).mono (by omega), (Dep.int (12 + k) i).mono (by omega)⟩
mutual
theorem Tp.dis1_tp : ∀ (t : Tp) (c : Sc) (addr reps : List Int), ∀ d ∈ t.dis1 c addr reps, d.tp.dep ≤ t.dep ∧ d.tp.cnt ≤ t.cnt ∧ (t.Fine → d.tp.Fine)
  | .when e cs os, c, addr, reps, d, h => by
    simp only [Tp.dis1] at h
    simp only [Tp.dep, Tp.cnt]
    split at h
    · obtain ⟨a, b, f⟩ := Tp.dis_tp os c _ reps 0 d h
      exact ⟨by omega, by omega, fun q => f q.2.2⟩
    · obtain ⟨a, b, f⟩ := Tp.dis_tp cs c _ reps 0 d h
      exact ⟨by omega, by omega, fun q => f q.2.1⟩
  | .each e cs, c, addr, reps, d, h => by
    simp only [Tp.dis1, List.mem_flatMap] at h
    obtain ⟨n, _, h⟩ := h
    obtain ⟨a, b, f⟩ := Tp.dis_tp cs _ addr _ 0 d h
    simp only [Tp.dep, Tp.cnt]
    exact ⟨by omega, by omega, fun q => f q.2⟩
  | .text _, c, addr, reps, d, h | .show _, c, addr, reps, d, h | .input _ _, c, addr, reps, d, h | .part _, c, addr, reps, d, h | .box _ _ _ _, c, addr, reps, d, h | .child _ _ _, c, addr, reps, d, h => by
    simp only [Tp.dis1, List.mem_singleton] at h
    subst h
    exact ⟨Nat.le_refl _, Nat.le_refl _, id⟩
theorem Tp.dis_tp : ∀ (ts : List Tp) (c : Sc) (before reps : List Int) (k : Nat), ∀ d ∈ Tp.dis c before reps k ts, d.tp.dep ≤ Tp.deps ts ∧ d.tp.cnt ≤ Tp.cnts ts ∧ (Tp.Fines ts → d.tp.Fine)
  | [], c, before, reps, k, d, h => nomatch h
  | t :: ts, c, before, reps, k, d, h => by
    simp only [Tp.dis, List.mem_append] at h
    simp only [Tp.deps, Tp.cnts]
    rcases h with h | h
    · obtain ⟨a, b, f⟩ := Tp.dis1_tp t c _ reps d h
      exact ⟨by omega, by omega, fun q => f q.1⟩
    · obtain ⟨a, b, f⟩ := Tp.dis_tp ts c before reps (k + 1) d h
      exact ⟨by omega, by omega, fun q => f q.2⟩
end
theorem lawNamed_tp : ∀ (ds : List Dr) (tk : List Nm), ∀ x ∈ lawNamed tk ds, ∃ d ∈ ds, x.2.1 = d.tp ∧ x.2.2 = d.idx
  | [], tk, x, h => nomatch h
  | d :: ds, tk, x, h => by
    simp only [lawNamed, List.mem_cons] at h
    rcases h with rfl | h
    · exact ⟨d, by simp, rfl, rfl⟩
    · obtain ⟨d', h1, h2⟩ := lawNamed_tp ds _ x h
      exact ⟨d', by simp [h1], h2⟩
theorem Cq.Ok.ndp {i last parts : Nat} {c : Cq} (h : c.Ok i last parts) : (Tp.ptss c.cs).Nodup := by
  refine h.pts.nodup_iff.mpr ?_
  split
  · exact List.nodup_range
  · exact List.nodup_nil
end Pw
namespace Pw
open PySem PySem.Spec PyProof.Rows L2
abbrev Path := List Nm
def pathT (p : Path) : T := .tup (p.map Nm.toT)
def numS (i : Int) : Str := Str.ofString (toString i)
inductive Nd where
  | text (path : Path) (s : Str)
  | box (path : Path) (tag : Str) (owner : Path) (act : Option Nat) (ns : List Nd)
  | input (path : Path) (tag : Str) (owner : Path) (cell : Nat) (v : Int)
  | child (path : Path) (comp : Nat) (props reads : List Int) (ns : List Nd)
  | place (path : Path) (k : Nat)
mutual
def Nd.toT : Nd → T
  | .text p s => .tup [.str "text", pathT p, .str s]
  | .box p tag o act ns => .tup [.str "box", pathT p, .str tag, pathT o, actT act, .tup (Nd.toTs ns)]
  | .input p tag o c v => .tup [.str "input", pathT p, .str tag, pathT o, .int (c : Int), .int v]
  | .child p c ps rs ns => .tup [.str "child", pathT p, .int (c : Int), intsT ps, intsT rs, .tup (Nd.toTs ns)]
  | .place p k => .tup [.str "place", pathT p, .int (k : Int)]
def Nd.toTs : List Nd → List T
  | [] => []
  | n :: ns => n.toT :: Nd.toTs ns
end
theorem Nd.toTs_map : ∀ ns : List Nd, Nd.toTs ns = ns.map Nd.toT
  | [] => rfl
  | n :: ns => by rw [Nd.toTs, Nd.toTs_map ns]; rfl
/-- what a page is laid out from -/
structure Pc where
  g : Pq
  st : List Int
  cs : List (Path × List Int)
  pres : List Nat
def Pc.comp (X : Pc) (d : Nat) : Cq := X.g.comps.getD d ⟨[], [], []⟩
/-- the last told ones, else the initial ones -/
def Pc.cells (X : Pc) (p : Path) (d : Nat) : List Int := X.cs.foldl (fun acc it => if it.1 = p then it.2 else acc) (intsOf (X.comp d).cells)
def Pc.reads (X : Pc) (lk : List Int) : List Int := ((List.range X.st.length).filter fun k : Nat => decide ((k : Int) ∈ lk)).map Int.ofNat
def Pc.sc (X : Pc) (p : Path) (d : Nat) (props : List Int) : Sc := ⟨X.cells p d, props, X.st, 0⟩
def childOf (X : Pc) (fl : Path → Sc → List Tp → Path → List Nd) (lk : Sc → List Tp → List Int) (p : Path) (d : Nat) (props : List Int) : Nd :=
  .child p d props (X.reads (lk (X.sc p d props) (X.comp d).cs)) (fl p (X.sc p d props) (X.comp d).cs p)
def nodeLk (lk : Sc → List Tp → List Int) (c : Sc) : Tp → List Int
  | .show e => e.looks c
  | .box _ _ _ cs => lk c cs
  | .child _ _ props => props.flatMap (E.looks c)
  | _ => []
/-- all looks while contents are laid out -/
def lkAll : Nat → Sc → List Tp → List Int
  | 0, _, _ => []
  | n + 1, c, ts => Tp.lks c ts ++ (lawNamed [] (Tp.dis c [] [] 0 ts)).flatMap fun it => nodeLk (lkAll n) { c with index := it.2.2 } it.2.1
def nodeOf (X : Pc) (fl : Path → Sc → List Tp → Path → List Nd) (lk : Sc → List Tp → List Int) (o : Path) (c : Sc) (here : Path) : Tp → Nd
  | .text s => .text here s
  | .show e => .text here (numS (e.val c))
  | .box tag _ act cs => .box here tag o act (fl o c cs here)
  | .child d _ props => childOf X fl lk here d (props.map (E.val c))
  | .part k => if k ∈ X.pres then childOf X fl lk here (X.g.parts.getD k 0) [] else .place here k
  | .input tag cell => .input here tag o cell (c.cells.getD cell 0)
  | .when _ _ _ => .place here 0
  | .each _ _ => .place here 0
def fill (X : Pc) : Nat → Path → Sc → List Tp → Path → List Nd
  | 0, _, _, _, _ => []
  | n + 1, o, c, ts, path => (lawNamed [] (Tp.dis c [] [] 0 ts)).map fun it => nodeOf X (fill X n) (lkAll n) o { c with index := it.2.2 } (path ++ [it.1]) it.2.1
def child (X : Pc) (n : Nat) (p : Path) (d : Nat) (props : List Int) : Nd := childOf X (fill X n) (lkAll n) p d props
/-! ### values stay small -/
def Sm (xs : List Int) : Prop := ∀ x ∈ xs, 0 ≤ x ∧ x < 1000
structure Sc.Sm (c : Sc) : Prop where
  cells : Pw.Sm c.cells
  props : Pw.Sm c.props
  store : Pw.Sm c.store
  index : 0 ≤ c.index ∧ c.index < 1000
  few : c.cells.length ≤ 4
theorem Sm.get {xs : List Int} (h : Sm xs) (i : Nat) : 0 ≤ xs.getD i 0 ∧ xs.getD i 0 < 1000 := by
  rw [List.getD_eq_getElem?_getD]
  cases e : xs[i]? with
  | none => exact ⟨by decide, by decide⟩
  | some x => exact h x (List.mem_of_getElem? e)
theorem E.sm {c : Sc} (h : c.Sm) : ∀ e : E, e.Ok → 0 ≤ e.val c ∧ e.val c < 1000
  | .num n, k => k
  | .cell i, _ => h.cells.get i
  | .prop i, _ => h.props.get i
  | .store i, _ => h.store.get i
  | .index, _ => h.index
  | .plus a b, _ => by simp only [E.val]; omega
  | .minus a b, _ => by simp only [E.val]; omega
  | .same a b, _ => by simp only [E.val]; split <;> decide
  | .less a b, _ => by simp only [E.val]; split <;> decide
  | .ite q a b, k => by
    simp only [E.val]
    split
    · exact E.sm h b k.2.2
    · exact E.sm h a k.2.1
theorem Sc.Sm.idx {c : Sc} (h : c.Sm) {i : Int} (hi : 0 ≤ i ∧ i < 1000) : Sc.Sm { c with index := i } := ⟨h.cells, h.props, h.store, hi, h.few⟩
mutual
theorem Tp.dis1_idx : ∀ (t : Tp) (c : Sc) (addr reps : List Int), (0 ≤ c.index ∧ c.index < 1000) → ∀ d ∈ t.dis1 c addr reps, 0 ≤ d.idx ∧ d.idx < 1000
  | .when e cs os, c, addr, reps, hc, d, h => by
    simp only [Tp.dis1] at h
    split at h
    · exact Tp.dis_idx os c _ reps 0 hc d h
    · exact Tp.dis_idx cs c _ reps 0 hc d h
  | .each e cs, c, addr, reps, hc, d, h => by
    simp only [Tp.dis1, List.mem_flatMap] at h
    obtain ⟨n, hn, h⟩ := h
    have := List.mem_range.mp hn
    have := mod6 (e.val c)
    exact Tp.dis_idx cs _ addr _ 0 (by dsimp only; omega) d h
  | .text _, c, addr, reps, hc, d, h | .show _, c, addr, reps, hc, d, h | .input _ _, c, addr, reps, hc, d, h | .part _, c, addr, reps, hc, d, h | .box _ _ _ _, c, addr, reps, hc, d, h | .child _ _ _, c, addr, reps, hc, d, h => by
    simp only [Tp.dis1, List.mem_singleton] at h
    subst h
    exact hc
theorem Tp.dis_idx : ∀ (ts : List Tp) (c : Sc) (before reps : List Int) (k : Nat), (0 ≤ c.index ∧ c.index < 1000) → ∀ d ∈ Tp.dis c before reps k ts, 0 ≤ d.idx ∧ d.idx < 1000
  | [], c, before, reps, k, hc, d, h => nomatch h
  | t :: ts, c, before, reps, k, hc, d, h => by
    simp only [Tp.dis, List.mem_append] at h
    rcases h with h | h
    · exact Tp.dis1_idx t c _ reps hc d h
    · exact Tp.dis_idx ts c before reps (k + 1) hc d h
end
/-! ### what stands in a row -/
mutual
theorem Tp.dis1_ok {own last : Nat} : ∀ {free : Bool} (t : Tp) (c : Sc) (addr reps : List Int), t.Ok own last free → ∀ d ∈ t.dis1 c addr reps, d.tp.node = true ∧ (∃ fr, d.tp.Ok own last fr) ∧ d.tp.dep ≤ t.dep ∧ d.tp.wt ≤ t.wt
  | _, .when e cs os, c, addr, reps, hk, d, h => by
    simp only [Tp.dis1] at h
    simp only [Tp.dep, Tp.wt]
    split at h
    · obtain ⟨a, b, f, z⟩ := Tp.dis_ok os c _ reps 0 hk.2.2 d h
      exact ⟨a, b, by omega, by omega⟩
    · obtain ⟨a, b, f, z⟩ := Tp.dis_ok cs c _ reps 0 hk.2.1 d h
      exact ⟨a, b, by omega, by omega⟩
  | _, .each e cs, c, addr, reps, hk, d, h => by
    simp only [Tp.dis1, List.mem_flatMap] at h
    obtain ⟨n, _, h⟩ := h
    obtain ⟨a, b, f, z⟩ := Tp.dis_ok cs _ addr _ 0 hk.2 d h
    simp only [Tp.dep, Tp.wt]
    exact ⟨a, b, by omega, by omega⟩
  | _, .text _, c, addr, reps, hk, d, h | _, .show _, c, addr, reps, hk, d, h | _, .input _ _, c, addr, reps, hk, d, h | _, .part _, c, addr, reps, hk, d, h | _, .box _ _ _ _, c, addr, reps, hk, d, h | _, .child _ _ _, c, addr, reps, hk, d, h => by
    simp only [Tp.dis1, List.mem_singleton] at h
    subst h
    exact ⟨rfl, ⟨_, hk⟩, Nat.le_refl _, Nat.le_refl _⟩
theorem Tp.dis_ok {own last : Nat} : ∀ {free : Bool} (ts : List Tp) (c : Sc) (before reps : List Int) (k : Nat), Tp.Oks own last free ts → ∀ d ∈ Tp.dis c before reps k ts, d.tp.node = true ∧ (∃ fr, d.tp.Ok own last fr) ∧ d.tp.dep ≤ Tp.deps ts ∧ d.tp.wt ≤ Tp.wts ts
  | _, [], c, before, reps, k, hk, d, h => nomatch h
  | _, t :: ts, c, before, reps, k, hk, d, h => by
    simp only [Tp.dis, List.mem_append] at h
    simp only [Tp.deps, Tp.wts]
    rcases h with h | h
    · obtain ⟨a, b, f, z⟩ := Tp.dis1_ok t c _ reps hk.1 d h
      exact ⟨a, b, by omega, by omega⟩
    · obtain ⟨a, b, f, z⟩ := Tp.dis_ok ts c before reps (k + 1) hk.2 d h
      exact ⟨a, b, by omega, by omega⟩
end
/-! ### how many nodes -/
mutual
def Tp.inst : Tp → Nat
  | .box _ _ _ cs => Tp.insts cs + 1
  | .when _ cs os => Tp.insts cs + Tp.insts os
  | .each _ cs => 5 * Tp.insts cs
  | _ => 1
def Tp.insts : List Tp → Nat
  | [] => 0
  | t :: ts => t.inst + Tp.insts ts
end
mutual
theorem Tp.inst_le0 : ∀ t : Tp, t.ech = 0 → t.inst ≤ t.cnt
  | .box _ _ _ cs, z => by have := Tp.insts_le0 cs z; simp only [Tp.inst, Tp.cnt]; omega
  | .when _ cs os, z => by
    simp only [Tp.ech] at z
    have := Tp.insts_le0 cs (by omega); have := Tp.insts_le0 os (by omega); simp only [Tp.inst, Tp.cnt]; omega
  | .each _ cs, z => by simp [Tp.ech] at z
  | .text _, _ | .show _, _ | .child _ _ _, _ | .part _, _ | .input _ _, _ => by simp [Tp.inst, Tp.cnt]
theorem Tp.insts_le0 : ∀ ts : List Tp, Tp.echs ts = 0 → Tp.insts ts ≤ Tp.cnts ts
  | [], _ => Nat.le_refl _
  | t :: ts, z => by
    simp only [Tp.echs] at z
    have := Tp.inst_le0 t (by omega); have := Tp.insts_le0 ts (by omega); simp only [Tp.insts, Tp.cnts]; omega
end
mutual
theorem Tp.inst_le : ∀ t : Tp, t.ech ≤ 1 → t.inst ≤ 5 * t.cnt
  | .box _ _ _ cs, z => by have := Tp.insts_le cs z; simp only [Tp.inst, Tp.cnt]; omega
  | .when _ cs os, z => by
    simp only [Tp.ech] at z
    have := Tp.insts_le cs (by omega); have := Tp.insts_le os (by omega); simp only [Tp.inst, Tp.cnt]; omega
  | .each _ cs, z => by
    simp only [Tp.ech] at z
    have := Tp.insts_le0 cs (by omega); simp only [Tp.inst, Tp.cnt]; omega
  | .text _, _ | .show _, _ | .child _ _ _, _ | .part _, _ | .input _ _, _ => by simp [Tp.inst, Tp.cnt]
theorem Tp.insts_le : ∀ ts : List Tp, Tp.echs ts ≤ 1 → Tp.insts ts ≤ 5 * Tp.cnts ts
  | [], _ => Nat.le_refl _
  | t :: ts, z => by
    simp only [Tp.echs] at z
    have := Tp.inst_le t (by omega); have := Tp.insts_le ts (by omega); simp only [Tp.insts, Tp.cnts]; omega
end
def sumBy {α : Type} (f : α → Nat) : List α → Nat
  | [] => 0
  | x :: xs => f x + sumBy f xs
theorem sumBy_app {α : Type} (f : α → Nat) (b : List α) : ∀ a : List α, sumBy f (a ++ b) = sumBy f a + sumBy f b
  | [] => by simp [sumBy]
  | x :: a => by simp only [List.cons_append, sumBy, sumBy_app f b a]; omega
theorem sumBy_flat {α : Type} (g : α → Nat) {f : Nat → List α} {m : Nat} (h : ∀ n, sumBy g (f n) ≤ m) : ∀ r : Nat, sumBy g ((List.range r).flatMap f) ≤ r * m
  | 0 => by simp [sumBy]
  | r + 1 => by
    rw [flat_succ, sumBy_app, Nat.succ_mul]
    have := sumBy_flat g h r
    have := h r
    omega
mutual
theorem Tp.dis1_inst : ∀ (t : Tp) (c : Sc) (addr reps : List Int), sumBy (fun d : Dr => d.tp.inst) (t.dis1 c addr reps) ≤ t.inst
  | .when e cs os, c, addr, reps => by
    simp only [Tp.dis1, Tp.inst]
    split
    · have := Tp.dis_inst os c (addr ++ [1]) reps 0; omega
    · have := Tp.dis_inst cs c (addr ++ [0]) reps 0; omega
  | .each e cs, c, addr, reps => by
    simp only [Tp.dis1, Tp.inst]
    have h1 := sumBy_flat (fun d : Dr => d.tp.inst) (f := fun n : Nat => Tp.dis { c with index := (n : Int) } addr (reps ++ [(n : Int)]) 0 cs) (m := Tp.insts cs) (fun n => Tp.dis_inst cs _ _ _ _) ((e.val c) % 6).toNat
    have h2 := Nat.mul_le_mul_right (Tp.insts cs) (mod6 (e.val c))
    omega
  | .text s, c, addr, reps | .show s, c, addr, reps | .box _ _ _ _, c, addr, reps | .child _ _ _, c, addr, reps | .part _, c, addr, reps | .input _ _, c, addr, reps => by simp [Tp.dis1, Tp.inst, sumBy]
theorem Tp.dis_inst : ∀ (ts : List Tp) (c : Sc) (before reps : List Int) (k : Nat), sumBy (fun d : Dr => d.tp.inst) (Tp.dis c before reps k ts) ≤ Tp.insts ts
  | [], c, before, reps, k => Nat.le_refl _
  | t :: ts, c, before, reps, k => by
    simp only [Tp.dis, Tp.insts]
    rw [sumBy_app]
    have := Tp.dis1_inst t c (before ++ [(k : Int)]) reps
    have := Tp.dis_inst ts c before reps (k + 1)
    omega
end
theorem lawNamed_sum (f : Tp → Nat) : ∀ (ds : List Dr) (tk : List Nm), sumBy (fun it : Nm × Tp × Int => f it.2.1) (lawNamed tk ds) = sumBy (fun d : Dr => f d.tp) ds
  | [], tk => rfl
  | d :: ds, tk => by simp only [lawNamed, sumBy, lawNamed_sum f ds]
mutual
def Nd.cnt : Nd → Nat
  | .box _ _ _ _ ns => Nd.cnts ns + 1
  | .child _ _ _ _ ns => Nd.cnts ns + 1
  | _ => 1
def Nd.cnts : List Nd → Nat
  | [] => 0
  | n :: ns => n.cnt + Nd.cnts ns
end
theorem cnts_sum : ∀ ns : List Nd, Nd.cnts ns = sumBy Nd.cnt ns
  | [] => rfl
  | n :: ns => by simp only [Nd.cnts, sumBy, cnts_sum ns]
theorem sumBy_map {α β : Type} (f : β → Nat) (g : α → β) : ∀ l : List α, sumBy f (l.map g) = sumBy (fun x => f (g x)) l
  | [] => rfl
  | x :: l => by simp only [List.map_cons, sumBy, sumBy_map f g l]
theorem sumBy_le {α : Type} {f g : α → Nat} {m : Nat} : ∀ l : List α, (∀ x ∈ l, f x ≤ g x * m) → sumBy f l ≤ sumBy g l * m
  | [], _ => Nat.zero_le _
  | x :: l, h => by
    have h1 := h x List.mem_cons_self
    have h2 := sumBy_le l fun y hy => h y (List.mem_cons_of_mem _ hy)
    simp only [sumBy, Nat.add_mul]
    omega
/-- what a context's program is like -/
structure Pc.Ok (X : Pc) : Prop where
  g : X.g.Ok
  st : Sm X.st
  sl : X.st.length ≤ 2
  cs : ∀ it ∈ X.cs, Sm it.2 ∧ it.2.length ≤ 4
  cl : X.cs.length ≤ 70000
  pres : ∀ k ∈ X.pres, k < X.g.parts.length
  pl : X.pres.length ≤ 2
theorem Pc.Ok.comp {X : Pc} (h : X.Ok) {d : Nat} (hd : d ≤ X.g.comps.length - 1) : (X.comp d).Ok d (X.g.comps.length - 1) X.g.parts.length := by
  have := h.g.ne
  have hl : d < X.g.comps.length := by omega
  have e : X.g.comps[d]? = some X.g.comps[d] := List.getElem?_eq_getElem hl
  have : X.comp d = X.g.comps[d] := by
    unfold Pc.comp
    rw [List.getD_eq_getElem?_getD, e]; rfl
  rw [this]
  exact h.g.comps d _ e
theorem cells_sm {l : List (Path × List Int)} {p : Path} : ∀ {z : List Int}, (∀ it ∈ l, Sm it.2 ∧ it.2.length ≤ 4) → Sm z ∧ z.length ≤ 4 → Sm (l.foldl (fun acc it => if it.1 = p then it.2 else acc) z) ∧ (l.foldl (fun acc it => if it.1 = p then it.2 else acc) z).length ≤ 4 := by
  induction l with
  | nil => intro z _ h; exact h
  | cons it l ih =>
    intro z hl hz
    refine ih (fun x hx => hl x (List.mem_cons_of_mem _ hx)) ?_
    show Sm (if it.1 = p then it.2 else z) ∧ (if it.1 = p then it.2 else z).length ≤ 4
    split
    · exact hl it List.mem_cons_self
    · exact hz
theorem intsOf_sm {ns : List Nat} (h : ∀ n ∈ ns, n < 1000) : Sm (intsOf ns) := by
  intro x hx
  obtain ⟨n, hn, rfl⟩ := List.mem_map.mp hx
  have := h n hn
  exact ⟨Int.natCast_nonneg n, by show (n : Int) < 1000; omega⟩
theorem Pc.Ok.cells {X : Pc} (h : X.Ok) {d : Nat} (hd : d ≤ X.g.comps.length - 1) (p : Path) : Sm (X.cells p d) ∧ (X.cells p d).length ≤ 4 := by
  have c := h.comp hd
  refine cells_sm h.cs ⟨intsOf_sm fun n hn => Nat.lt_trans (c.cells n hn) (by decide), ?_⟩
  unfold intsOf
  rw [List.length_map]
  have := c.cl
  omega
theorem Pc.Ok.sc {X : Pc} (h : X.Ok) {d : Nat} (hd : d ≤ X.g.comps.length - 1) (p : Path) {props : List Int} (hp : Sm props) : (X.sc p d props).Sm :=
  ⟨(h.cells hd p).1, hp, h.st, by show (0 : Int) ≤ 0 ∧ (0 : Int) < 1000; decide, (h.cells hd p).2⟩
/-- how deep what is left may be -/
def rank (last own : Nat) (ts : List Tp) : Nat := Tp.deps ts + 4 * (last - own)
def tot : Nat → Nat
  | 0 => 40
  | j + 1 => 40 * (1 + tot j)
theorem tot_mono : ∀ {a b : Nat}, a ≤ b → tot a ≤ tot b := by
  intro a b h
  induction h with
  | refl => exact Nat.le_refl _
  | step _ ih => simp only [tot]; omega
def below (last own : Nat) : Nat := if own < last then 1 + tot (last - own - 1) else 1
theorem below_pos (last own : Nat) : 1 ≤ below last own := by unfold below; split <;> omega
theorem below_tot (last own : Nat) : 40 * below last own ≤ tot (last - own) := by
  unfold below
  split
  · rename_i h
    obtain ⟨j, hj⟩ : ∃ j, last - own = j + 1 := ⟨last - own - 1, by omega⟩
    rw [hj]
    simp only [tot, Nat.add_sub_cancel]
    omega
  · have := tot_mono (Nat.zero_le (last - own))
    simp only [tot] at this
    omega
theorem fill_cnt {X : Pc} (h : X.Ok) : ∀ (n : Nat) (own : Nat) (free : Bool) (o : Path) (c : Sc) (ts : List Tp) (p : Path), own ≤ X.g.comps.length - 1 → Tp.Oks own (X.g.comps.length - 1) free ts → Nd.cnts (fill X n o c ts p) ≤ Tp.insts ts * below (X.g.comps.length - 1) own
  | 0, _, _, _, _, _, _, _, _ => Nat.zero_le _
  | n + 1, own, free, o, c, ts, p, ho, hk => by
    have kid : ∀ (q : Path) (d : Nat) (props : List Int), own < d → d ≤ X.g.comps.length - 1 → (childOf X (fill X n) (lkAll n) q d props).cnt ≤ below (X.g.comps.length - 1) own := fun q d props h1 h2 => by
      have cd := h.comp h2
      have i1 := fill_cnt h n d true q (X.sc q d props) (X.comp d).cs q h2 cd.oks
      have i2 := Tp.insts_le _ cd.echs
      have i3 := cd.cnts
      have i4 : Tp.insts (X.comp d).cs ≤ 40 := by omega
      have i5 := Nat.mul_le_mul_right (below (X.g.comps.length - 1) d) i4
      have i6 := below_tot (X.g.comps.length - 1) d
      have i7 : tot (X.g.comps.length - 1 - d) ≤ tot (X.g.comps.length - 1 - own - 1) := tot_mono (by omega)
      simp only [childOf, Nd.cnt]
      unfold below
      rw [if_pos (by omega)]
      omega
    simp only [fill]
    rw [cnts_sum, sumBy_map]
    have e := lawNamed_sum Tp.inst (Tp.dis c [] [] 0 ts) []
    have e2 := Tp.dis_inst ts c [] [] 0
    refine Nat.le_trans (sumBy_le (g := fun it : Nm × Tp × Int => it.2.1.inst) (m := below (X.g.comps.length - 1) own) _ fun it hit => ?_) (Nat.mul_le_mul_right _ (by omega))
    obtain ⟨dd, hdd, h1, h2⟩ := lawNamed_tp _ _ it hit
    obtain ⟨a1, ⟨fr, a2⟩, a3, a4⟩ := Tp.dis_ok ts c [] [] 0 hk dd hdd
    rw [← h1] at a1 a2
    have bp := below_pos (X.g.comps.length - 1) own
    generalize it.2.1 = t at a1 a2
    cases t with
    | when _ _ _ => cases a1
    | each _ _ => cases a1
    | text s => simp only [nodeOf, Nd.cnt, Tp.inst]; omega
    | «show» s => simp only [nodeOf, Nd.cnt, Tp.inst]; omega
    | input _ _ => simp only [nodeOf, Nd.cnt, Tp.inst]; omega
    | box tag key act cs =>
      simp only [nodeOf, Nd.cnt, Tp.inst]
      have := fill_cnt h n own fr o { c with index := it.2.2 } cs (p ++ [it.1]) ho a2.2.2.2
      rw [Nat.add_mul]
      omega
    | child d key props =>
      simp only [nodeOf, Tp.inst, Nat.one_mul]
      exact kid _ d _ a2.1 a2.2.1
    | part k =>
      simp only [nodeOf, Tp.inst, Nat.one_mul]
      split
      · rename_i hin
        have hk := h.pres k hin
        have hp := h.g.parts _ (List.getElem_mem hk)
        have e3 : X.g.parts.getD k 0 = X.g.parts[k] := by rw [List.getD_eq_getElem?_getD, List.getElem?_eq_getElem hk]; rfl
        rw [e3]
        exact kid _ _ _ (by rw [a2.1]; exact hp.1) (by omega)
      · exact bp
end Pw
namespace Pw
open PySem PySem.Spec PyProof.Rows L2
theorem bo_min : bootBuiltins "min" = some (.builtin "min") := by decide +kernel
theorem sumBy_take {α : Type} (f : α → Nat) {l : List α} {j : Nat} {x : α} (h : l[j]? = some x) : sumBy f (l.take j) + f x ≤ sumBy f l := by
  have hi : j < l.length := (List.getElem?_eq_some_iff.mp h).1
  have e3 : x = l[j] := by rw [List.getElem?_eq_getElem hi] at h; exact (Option.some.inj h).symm
  have e1 : l = l.take j ++ x :: l.drop (j + 1) := by rw [e3, ← List.drop_eq_getElem_cons hi, List.take_append_drop]
  have e4 := congrArg (sumBy f) e1
  rw [sumBy_app, sumBy] at e4
  omega
theorem len_flat {α β : Type} (f : α → List β) : ∀ l : List α, (l.flatMap f).length = sumBy (fun x => (f x).length) l
  | [] => rfl
  | x :: l => by rw [List.flatMap_cons, List.length_append, len_flat f l]; rfl
mutual
theorem Tp.dis1_wt : ∀ (t : Tp) (c : Sc) (addr reps : List Int), sumBy (fun d : Dr => d.tp.wt) (t.dis1 c addr reps) ≤ t.wt
  | .when e cs os, c, addr, reps => by
    simp only [Tp.dis1, Tp.wt]
    split
    · have := Tp.dis_wt os c (addr ++ [1]) reps 0; omega
    · have := Tp.dis_wt cs c (addr ++ [0]) reps 0; omega
  | .each e cs, c, addr, reps => by
    simp only [Tp.dis1, Tp.wt]
    have h1 := sumBy_flat (fun d : Dr => d.tp.wt) (f := fun n : Nat => Tp.dis { c with index := (n : Int) } addr (reps ++ [(n : Int)]) 0 cs) (m := Tp.wts cs) (fun n => Tp.dis_wt cs _ _ _ _) ((e.val c) % 6).toNat
    have h2 := Nat.mul_le_mul_right (Tp.wts cs) (mod6 (e.val c))
    omega
  | .text s, c, addr, reps | .show s, c, addr, reps | .box _ _ _ _, c, addr, reps | .child _ _ _, c, addr, reps | .part _, c, addr, reps | .input _ _, c, addr, reps => by simp [Tp.dis1, Tp.wt, sumBy]
theorem Tp.dis_wt : ∀ (ts : List Tp) (c : Sc) (before reps : List Int) (k : Nat), sumBy (fun d : Dr => d.tp.wt) (Tp.dis c before reps k ts) ≤ Tp.wts ts
  | [], c, before, reps, k => Nat.le_refl _
  | t :: ts, c, before, reps, k => by
    simp only [Tp.dis, Tp.wts]
    rw [sumBy_app]
    have := Tp.dis1_wt t c (before ++ [(k : Int)]) reps
    have := Tp.dis_wt ts c before reps (k + 1)
    omega
end
theorem props_len (c : Sc) : ∀ ps : List E, (ps.flatMap (E.looks c)).length ≤ psz ps
  | [] => Nat.le_refl _
  | e :: ps => by
    rw [List.flatMap_cons, List.length_append]
    have := e.looks_le c
    have := props_len c ps
    simp only [psz]
    omega
theorem lk_len : ∀ (n : Nat) (c : Sc) (ts : List Tp), (lkAll n c ts).length ≤ (Tp.deps ts + 2) * Tp.wts ts ∧ ∀ (D : Nat) (t : Tp) (c' : Sc), t.dep ≤ D → (nodeLk (lkAll n) c' t).length ≤ t.wt * (D + 1)
  | n, c, ts => by
    have node : (∀ (c : Sc) (ts : List Tp), (lkAll n c ts).length ≤ (Tp.deps ts + 2) * Tp.wts ts) → ∀ (D : Nat) (t : Tp) (c' : Sc), t.dep ≤ D → (nodeLk (lkAll n) c' t).length ≤ t.wt * (D + 1) := fun ih D t c' hd => by
      cases t with
      | box tag key act cs =>
        simp only [nodeLk, Tp.wt, Tp.dep] at hd ⊢
        have h1 := ih c' cs
        have h2 : (Tp.deps cs + 2) * Tp.wts cs ≤ (D + 1) * Tp.wts cs := Nat.mul_le_mul_right _ (by omega)
        rw [Nat.add_mul, Nat.add_mul, Nat.mul_comm (Tp.wts cs)]
        omega
      | «show» e =>
        simp only [nodeLk, Tp.wt]
        have := e.looks_le c'
        have := Nat.le_mul_of_pos_right (e.size + 1) (show 0 < D + 1 by omega)
        omega
      | child d key props =>
        simp only [nodeLk, Tp.wt]
        have := props_len c' props
        have := Nat.le_mul_of_pos_right (ksz key + psz props + 1) (show 0 < D + 1 by omega)
        omega
      | _ => simp [nodeLk]
    have all : ∀ (c : Sc) (ts : List Tp), (lkAll n c ts).length ≤ (Tp.deps ts + 2) * Tp.wts ts := by
      cases n with
      | zero => intro c ts; simp [lkAll]
      | succ n =>
        intro c ts
        simp only [lkAll, List.length_append, len_flat]
        have h1 := Tp.lks_len ts c
        have h2 := sumBy_le (f := fun it : Nm × Tp × Int => (nodeLk (lkAll n) { c with index := it.2.2 } it.2.1).length) (g := fun it => it.2.1.wt) (m := Tp.deps ts + 1) (lawNamed [] (Tp.dis c [] [] 0 ts)) fun it hit => by
          obtain ⟨dd, hdd, e1, e2⟩ := lawNamed_tp _ _ it hit
          obtain ⟨a1, a2, a3⟩ := Tp.dis_tp ts c [] [] 0 dd hdd
          exact (lk_len n c ts).2 (Tp.deps ts) it.2.1 _ (by rw [e1]; exact a1)
        have h3 := lawNamed_sum Tp.wt (Tp.dis c [] [] 0 ts) []
        have h4 := Tp.dis_wt ts c [] [] 0
        have h5 : sumBy (fun it : Nm × Tp × Int => it.2.1.wt) (lawNamed [] (Tp.dis c [] [] 0 ts)) * (Tp.deps ts + 1) ≤ Tp.wts ts * (Tp.deps ts + 1) := Nat.mul_le_mul_right _ (by omega)
        rw [show Tp.deps ts + 2 = 1 + (Tp.deps ts + 1) by omega, Nat.add_mul, Nat.one_mul, Nat.mul_comm (Tp.deps ts + 1)]
        omega
    exact ⟨all c ts, node all⟩
/-! ### paths -/
structure PathOk (p : Path) : Prop where
  sh : ∀ n ∈ p, n.short
  len : p.length ≤ 500
theorem PathOk.dep {p : Path} (h : PathOk p) (k : Nat) : Dep (k + 4) (pathT p) := by
  refine .tup _ _ (by rw [List.length_map]; have := h.len; omega) fun t ht => ?_
  obtain ⟨n, hn, rfl⟩ := List.mem_map.mp ht
  exact Nm.dep (h.sh n hn) k
theorem path_sok : ∀ p : Path, T.soks (p.map Nm.toT) = true
  | [] => rfl
  | n :: p => by simp only [List.map_cons, T.soks, Nm.sok, path_sok p, Bool.and_self]
theorem PathOk.eqb {p : Path} (h : PathOk p) : (pathT p).Eqb := ⟨h.dep 56, path_sok p⟩
theorem nks_path : ∀ {p q : Path}, T.nks (p.map Nm.toT) = T.nks (q.map Nm.toT) → p = q
  | [], [], _ => rfl
  | [], _ :: _, h => by simp [T.nks] at h
  | _ :: _, [], h => by simp [T.nks] at h
  | a :: p, b :: q, h => by
    simp only [List.map_cons, T.nks, List.cons.injEq] at h
    rw [Nm.nk_inj h.1, nks_path h.2]
theorem path_nk {p q : Path} : (pathT p).nk = (pathT q).nk ↔ p = q := by
  constructor
  · intro h
    simp only [pathT, T.nk, NestedKey.tup.injEq] at h
    exact nks_path h
  · intro h; rw [h]
theorem PathOk.snoc {p : Path} {n : Nm} (h : PathOk p) (hn : n.short) (hl : p.length < 500) : PathOk (p ++ [n]) :=
  ⟨fun m hm => (List.mem_append.mp hm).elim (h.sh m) (fun z => by rw [List.mem_singleton.mp z]; exact hn), by simp; omega⟩
theorem PathOk.nil : PathOk [] := ⟨by simp, by simp⟩
def cellsT (cs : List (Path × List Int)) : T := .tup (cs.map fun it => .tup [pathT it.1, intsT it.2])
structure About (H : Hp) (ab : Addr) (X : Pc) : Prop where
  ex : ∃ vp vs vc vr, H ab = some (.lst [vp, vs, vc, vr]) ∧ IsT H X.g.toT vp ∧ IsT H (intsT X.st) vs ∧ IsT H (cellsT X.cs) vc ∧ IsT H (natsT X.pres) vr
theorem About.oth {H H' : Hp} {S : List Addr} {ab : Addr} {X : Pc} (h : About H ab X) (o : Oth S H H') (n : ab ∉ S) : About H' ab X := by
  obtain ⟨vp, vs, vc, vr, e, a, b, c, d⟩ := h.ex
  exact ⟨vp, vs, vc, vr, o.keep _ _ n e, a.oth o, b.oth o, c.oth o, d.oth o⟩
theorem About.ne {H : Hp} {ab p : Addr} {X : Pc} (h : About H ab X) (n : H p = none) : ab ≠ p := let ⟨_, _, _, _, e, _⟩ := h.ex; ne_of_none e n
/-- the context and the paths of its cells -/
structure Pc.Good (X : Pc) : Prop extends Pc.Ok X where
  paths : ∀ it ∈ X.cs, PathOk it.1
def spLawFill (n : Nat) : Sp := fun vs H Q _ => ∃ (X : Pc) (own : Nat) (free : Bool) (o p : Path) (c : Sc) (ts : List Tp) (vo vt vp : V) (ab s sa sp ss l : Addr) (L : List V), vs = [.ref ab, vo, .ref s, .ref l, vt, vp] ∧ About H ab X ∧ X.Good ∧ IsT H (pathT o) vo ∧
  H s = some (.lst [.ref sa, .ref sp, .ref ss, .int c.index]) ∧ H sa = some (.tup (c.cells.map V.int)) ∧ H sp = some (.tup (c.props.map V.int)) ∧ H ss = some (.tup (c.store.map V.int)) ∧ H l = some (.lst L) ∧ IsT H (.tup (Tp.toTs ts)) vt ∧ IsT H (pathT p) vp ∧
  c.Sm ∧ own ≤ X.g.comps.length - 1 ∧ Tp.Oks own (X.g.comps.length - 1) free ts ∧ Tp.wts ts ≤ 600 ∧ Tp.deps ts ≤ 3 ∧ rank (X.g.comps.length - 1) own ts < n ∧ L.length + (Tp.deps ts + 2) * Tp.wts ts ≤ 40000 ∧ ab ≠ l ∧ s ≠ l ∧ PathOk p ∧ p.length + n ≤ 400 ∧
  ∀ v H', IsT H' (.tup (Nd.toTs (fill X n o c ts p))) v → H' l = some (.lst (L ++ (lkAll n c ts).map V.int)) → Oth [l] H H' → Q v H'
def spLawChild (n : Nat) : Sp := fun vs H Q _ => ∃ (X : Pc) (d : Nat) (p : Path) (props : List Int) (vp vq : V) (ab : Addr), vs = [.ref ab, vp, .int (d : Int), vq] ∧ About H ab X ∧ X.Good ∧ IsT H (pathT p) vp ∧ IsT H (intsT props) vq ∧
  d ≤ X.g.comps.length - 1 ∧ Sm props ∧ 3 + 4 * (X.g.comps.length - 1 - d) < n ∧ PathOk p ∧ p.length + n ≤ 400 ∧
  ∀ v H', IsT H' (child X n p d props).toT v → Oth [] H H' → Q v H'
theorem flatN : ∀ ns : List Nat, (ns.map natV).all flatV = true
  | [] => rfl
  | n :: ns => by rw [List.map_cons, List.all_cons, flatN ns]; rfl
theorem inVn (k : Nat) : ∀ ns : List Nat, inV (V.int (k : Int)) (ns.map natV) = decide (k ∈ ns)
  | [] => by simp [inV]
  | n :: ns => by
    have ih := inVn k ns
    unfold inV at ih ⊢
    rw [List.map_cons, List.any_cons, ih]
    have : eqV (natV n) (V.int (k : Int)) = decide (k = n) := by
      show decide ((n : Int) = (k : Int)) = _
      exact decide_eq_decide.mpr (by omega)
    rw [this]
    simp only [List.mem_cons, Bool.decide_or]
theorem flatI : ∀ ns : List Int, (ns.map V.int).all flatV = true
  | [] => rfl
  | n :: ns => by rw [List.map_cons, List.all_cons, flatI ns]; rfl
theorem inVi (k : Int) : ∀ ns : List Int, inV (V.int k) (ns.map V.int) = decide (k ∈ ns)
  | [] => by simp [inV]
  | n :: ns => by
    have ih := inVi k ns
    unfold inV at ih ⊢
    rw [List.map_cons, List.any_cons, ih]
    have : eqV (V.int n) (V.int k) = decide (k = n) := by
      show (n == k) = _
      rw [beq_dec]
      exact decide_eq_decide.mpr ⟨Eq.symm, Eq.symm⟩
    rw [this]
    simp only [List.mem_cons, Bool.decide_or]
theorem at_cell {cs : List Int} {cell : Nat} : atI (cs.map V.int ++ [V.int 0]) (if (((cs.map V.int).length : Nat) : Int) < (cell : Int) then (((cs.map V.int).length : Nat) : Int) else (cell : Int)) = some (.int (cs.getD cell 0)) := by
  by_cases h : cell < cs.length
  · rw [if_neg (by rw [List.length_map]; omega)]
    refine atI_nat ?_
    rw [List.getElem?_append_left (by rw [List.length_map]; exact h), List.getElem?_map, List.getElem?_eq_getElem h, List.getD_eq_getElem?_getD, List.getElem?_eq_getElem h]
    rfl
  · have e : (if (((cs.map V.int).length : Nat) : Int) < (cell : Int) then (((cs.map V.int).length : Nat) : Int) else (cell : Int)) = ((cs.length : Nat) : Int) := by
      rw [List.length_map]; split <;> omega
    rw [e]
    refine atI_nat ?_
    rw [List.getElem?_append_right (by rw [List.length_map]; omega), List.length_map, Nat.sub_self, getD_out h]
    rfl
theorem natAbs_log {x : Int} (h : 0 ≤ x ∧ x < 1000) : x.natAbs.log2 < 1920 := by
  by_cases z : x.natAbs = 0
  · rw [z]; decide
  · exact Nat.lt_trans ((Nat.log2_lt z).mpr (show x.natAbs < 2 ^ 10 by omega)) (by decide)
end Pw
namespace Pw
open PySem PySem.Spec PyProof.Rows L2 PySem.AutoSeq1 PySem.Calls
theorem extend_tup (D : Addr) (us : Array Value) (m : Nat) (t : Addr) (ws : Array Value) (m2 : Nat) (dd : Option Addr) (ss : Array (Option Value)) (long : ¬ (!us.isEmpty && Builtin.List.listTooLong (us.size + ws.size)) = true) (fits : us.size ≤ sizeLine) (both : us.size + ws.size ≤ sizeLine + 1) :
    Meets (Builtin.«list.extend» ⟨[.ref D, .ref t], []⟩) (fun _ R s => s.heap.get? D = some { cls := .type "list", dict := none, data := .seq us m, slots := #[] } ∧
      s.heap.get? t = some { cls := .type "tuple", dict := dd, data := .seq ws m2, slots := ss } ∧
      R (.ok (.ret Value.none)) { s with heap := s.heap.update D (Obj.mapSeq fun x => x ++ ws), toks := s.toks }) :=
  .of_wp fun prog w A R s h => by
    obtain ⟨hp, gs, dr, tk, os⟩ := s
    obtain ⟨hD, ht, hq⟩ := h
    have a1 := AutoSeq1.idx_int
    have a2 := AutoSeq1.sub_tuple_tuple
    have a3 := AutoSeq1.sub_list_list
    have a4 := AutoSeq1.sub_tuple_list
    have a5 := AutoSeq1.sub_list_tuple
    have fit2 : (us ++ ws).size ≤ sizeLine + 1 := by
      rw [Array.size_append]; exact both
    wp_walk using (wpAny_updateSeq hD rfl (hz := fits) (_hz' := fit2)), AutoSeq1.wpAny_loadPart' hD, AutoSeq1.wpAny_loadPart' ht
    exact ⟨_, rfl, hq⟩
def rExtT (K : PySem.W.Frag) : V → List V → Hp → VK → Prop := fun x vs H Q =>
  ∃ (l b : Addr) (xs zs : List V), x = .ref l ∧ vs = [.ref b] ∧ H l = some (.lst xs) ∧ H b = some (.tup zs) ∧ xs.length + zs.length ≤ 500000 ∧ Q .non (upd H l (.lst (xs ++ zs)))
theorem mt_extT {X : Cx} : MtR X "list.extend" (rExtT X.K) := by
  intro pins s σ H x vs v us Q I rx rvs hw
  obtain ⟨l, b, xs, zs, ex, evs, hl, hb, hs, q⟩ := hw
  subst ex
  subst evs
  cases rx
  obtain ⟨ub, eub, rub⟩ := rvs.one
  subst eub
  cases rub
  obtain ⟨zl, il, nl, rl, sl, gl⟩ := I.lstM hl
  obtain ⟨ib, rb, tb, zb⟩ := I.tuple (SqT.of hb)
  obtain ⟨ob, hob, cb, nb, db⟩ := tb
  obtain ⟨c1, d1, dat1, s1⟩ := ob
  simp only at cb db
  subst cb
  subst db
  have lxs := rl.length
  have lzs := rb.length
  have sline : (500000 : Nat) ≤ sizeLine := by decide
  have small : il.toArray.size + ib.toArray.size ≤ sizeLine := by simp only [List.size_toArray]; omega
  have nolong : ¬ (!il.toArray.isEmpty && Builtin.List.listTooLong (il.toArray.size + ib.toArray.size)) = true := by
    rw [notLongL small, Bool.and_false]; exact fun z => Bool.noConfusion z
  refine call_meets F.slot_list_extend ⟨_, gl, rfl⟩ F.entry_list_extend (F.args_list_extend_2 _ _) (extend_tup l il.toArray nl b ib.toArray nb d1 s1 nolong (by omega) (by omega)) ⟨gl, hob, ?_⟩
  exact ⟨.non, _, I.lset (its' := il ++ ib) hl gl (by simp) (rl.append rb) (by rw [List.length_append]; omega), rfl, q⟩
end Pw
namespace Pw
open PySem PySem.Spec PyProof.Rows L2
theorem bo_list : bootBuiltins "list" = some (.type "list") := by decide +kernel
mutual
def Nd.sh1 : Nd → List Nd
  | .text p s => [.text p s]
  | .box p t o a ns => [.box p t o a (Nd.shs ns)]
  | .input p t o c v => [.input p t o c v]
  | .child _ _ _ _ ns => Nd.shs ns
  | .place _ _ => []
def Nd.shs : List Nd → List Nd
  | [] => []
  | n :: ns => n.sh1 ++ Nd.shs ns
end
def Nd.path : Nd → Path
  | .text p _ | .box p _ _ _ _ | .input p _ _ _ _ | .child p _ _ _ _ | .place p _ => p
mutual
def Nd.fl1 : Nd → List Nd
  | .box p t o a ns => .box p t o a ns :: Nd.fls ns
  | n => [n]
/-- shown nodes with all in them -/
def Nd.fls : List Nd → List Nd
  | [] => []
  | n :: ns => n.fl1 ++ Nd.fls ns
end
mutual
def Nd.ht : Nd → Nat
  | .box _ _ _ _ ns => Nd.hts ns + 1
  | .child _ _ _ _ ns => Nd.hts ns + 1
  | _ => 0
def Nd.hts : List Nd → Nat
  | [] => 0
  | n :: ns => max n.ht (Nd.hts ns)
end
mutual
/-- all paths in it are paths -/
def Nd.Pok : Nd → Prop
  | .text p _ => PathOk p
  | .box p _ o _ ns => PathOk p ∧ PathOk o ∧ Nd.Poks ns
  | .input p _ o _ _ => PathOk p ∧ PathOk o
  | .child p _ _ _ ns => PathOk p ∧ Nd.Poks ns
  | .place p _ => PathOk p
def Nd.Poks : List Nd → Prop
  | [] => True
  | n :: ns => n.Pok ∧ Nd.Poks ns
end
mutual
/-- children and places are not shown -/
def Nd.Shn : Nd → Prop
  | .box _ _ _ _ ns => Nd.Shns ns
  | .child _ _ _ _ _ => False
  | .place _ _ => False
  | _ => True
def Nd.Shns : List Nd → Prop
  | [] => True
  | n :: ns => n.Shn ∧ Nd.Shns ns
end
theorem poks_app {b : List Nd} (hb : Nd.Poks b) : ∀ {a : List Nd}, Nd.Poks a → Nd.Poks (a ++ b)
  | [], _ => hb
  | _ :: a, h => ⟨h.1, poks_app hb h.2⟩
theorem shns_app {b : List Nd} (hb : Nd.Shns b) : ∀ {a : List Nd}, Nd.Shns a → Nd.Shns (a ++ b)
  | [], _ => hb
  | _ :: a, h => ⟨h.1, shns_app hb h.2⟩
theorem poks_mem : ∀ {a : List Nd}, Nd.Poks a → ∀ n ∈ a, n.Pok
  | _ :: a, h, n, hn => by
    rcases List.mem_cons.mp hn with rfl | hn
    · exact h.1
    · exact poks_mem h.2 n hn
theorem shns_mem : ∀ {a : List Nd}, Nd.Shns a → ∀ n ∈ a, n.Shn
  | _ :: a, h, n, hn => by
    rcases List.mem_cons.mp hn with rfl | hn
    · exact h.1
    · exact shns_mem h.2 n hn
theorem hts_mem {n : Nd} : ∀ {a : List Nd}, n ∈ a → n.ht ≤ Nd.hts a
  | m :: a, hn => by
    simp only [Nd.hts]
    rcases List.mem_cons.mp hn with rfl | hn
    · omega
    · have := hts_mem hn; omega
theorem ncnts_mem {n : Nd} : ∀ {a : List Nd}, n ∈ a → n.cnt ≤ Nd.cnts a
  | m :: a, hn => by
    simp only [Nd.cnts]
    rcases List.mem_cons.mp hn with rfl | hn
    · omega
    · have := ncnts_mem hn; omega
theorem ncnts_app (b : List Nd) : ∀ a : List Nd, Nd.cnts (a ++ b) = Nd.cnts a + Nd.cnts b
  | [] => by simp [Nd.cnts]
  | n :: a => by simp only [List.cons_append, Nd.cnts, ncnts_app b a]; omega
theorem hts_app (b : List Nd) : ∀ a : List Nd, Nd.hts (a ++ b) = max (Nd.hts a) (Nd.hts b)
  | [] => by simp [Nd.hts]
  | n :: a => by simp only [List.cons_append, Nd.hts, hts_app b a]; omega
theorem cnt_pos (n : Nd) : 1 ≤ n.cnt := by cases n <;> simp [Nd.cnt]
theorem ncnts_len : ∀ a : List Nd, a.length ≤ Nd.cnts a
  | [] => Nat.le_refl _
  | n :: a => by have := cnt_pos n; have := ncnts_len a; simp only [List.length_cons, Nd.cnts]; omega
theorem shs_app (b : List Nd) : ∀ a : List Nd, Nd.shs (a ++ b) = Nd.shs a ++ Nd.shs b
  | [] => rfl
  | n :: a => by simp only [List.cons_append, Nd.shs, shs_app b a, List.append_assoc]
theorem fls_app (b : List Nd) : ∀ a : List Nd, Nd.fls (a ++ b) = Nd.fls a ++ Nd.fls b
  | [] => rfl
  | n :: a => by simp only [List.cons_append, Nd.fls, fls_app b a, List.append_assoc]
mutual
theorem Nd.sh1_ok : ∀ n : Nd, Nd.Shns n.sh1 ∧ (n.Pok → Nd.Poks n.sh1) ∧ Nd.cnts n.sh1 ≤ n.cnt ∧ Nd.hts n.sh1 ≤ n.ht
  | .text p s => ⟨⟨trivial, trivial⟩, fun h => ⟨h, trivial⟩, by simp [Nd.sh1, Nd.cnts, Nd.cnt], by simp [Nd.sh1, Nd.hts, Nd.ht]⟩
  | .box p t o a ns => by
    obtain ⟨a1, a2, a3, a4⟩ := Nd.shs_ok ns
    exact ⟨⟨a1, trivial⟩, fun h => ⟨⟨h.1, h.2.1, a2 h.2.2⟩, trivial⟩, by simp only [Nd.sh1, Nd.cnts, Nd.cnt]; omega, by simp only [Nd.sh1, Nd.hts, Nd.ht]; omega⟩
  | .input p t o c v => ⟨⟨trivial, trivial⟩, fun h => ⟨h, trivial⟩, by simp [Nd.sh1, Nd.cnts, Nd.cnt], by simp [Nd.sh1, Nd.hts, Nd.ht]⟩
  | .child p c ps rs ns => by
    obtain ⟨a1, a2, a3, a4⟩ := Nd.shs_ok ns
    exact ⟨a1, fun h => a2 h.2, by simp only [Nd.sh1, Nd.cnt]; omega, by simp only [Nd.sh1, Nd.ht]; omega⟩
  | .place p k => ⟨trivial, fun _ => trivial, by simp [Nd.sh1, Nd.cnts], by simp [Nd.sh1, Nd.hts]⟩
theorem Nd.shs_ok : ∀ ns : List Nd, Nd.Shns (Nd.shs ns) ∧ (Nd.Poks ns → Nd.Poks (Nd.shs ns)) ∧ Nd.cnts (Nd.shs ns) ≤ Nd.cnts ns ∧ Nd.hts (Nd.shs ns) ≤ Nd.hts ns
  | [] => ⟨trivial, fun _ => trivial, Nat.le_refl _, Nat.le_refl _⟩
  | n :: ns => by
    obtain ⟨a1, a2, a3, a4⟩ := Nd.sh1_ok n
    obtain ⟨b1, b2, b3, b4⟩ := Nd.shs_ok ns
    refine ⟨shns_app b1 a1, fun h => poks_app (b2 h.2) (a2 h.1), ?_, ?_⟩
    · simp only [Nd.shs, Nd.cnts, ncnts_app]; omega
    · simp only [Nd.shs, Nd.hts, hts_app]; omega
end
mutual
theorem Nd.sh1_id : ∀ n : Nd, n.Shn → n.sh1 = [n]
  | .text _ _, _ | .input _ _ _ _ _, _ => rfl
  | .box p t o a ns, h => by simp only [Nd.sh1, Nd.shs_id ns h]
  | .child _ _ _ _ _, h => h.elim
  | .place _ _, h => h.elim
theorem Nd.shs_id : ∀ ns : List Nd, Nd.Shns ns → Nd.shs ns = ns
  | [], _ => rfl
  | n :: ns, h => by simp only [Nd.shs, Nd.sh1_id n h.1, Nd.shs_id ns h.2, List.cons_append, List.nil_append]
end
mutual
theorem Nd.fl1_ok : ∀ n : Nd, n.fl1.length ≤ n.cnt ∧ (n.Pok → Nd.Poks n.fl1) ∧ (n.Shn → Nd.Shns n.fl1)
  | .text p s => ⟨by simp [Nd.fl1, Nd.cnt], fun h => ⟨h, trivial⟩, fun h => ⟨h, trivial⟩⟩
  | .box p t o a ns => by
    obtain ⟨a1, a2, a3⟩ := Nd.fls_ok ns
    exact ⟨by simp only [Nd.fl1, Nd.cnt, List.length_cons]; omega, fun h => ⟨h, a2 h.2.2⟩, fun h => ⟨h, a3 h⟩⟩
  | .input p t o c v => ⟨by simp [Nd.fl1, Nd.cnt], fun h => ⟨h, trivial⟩, fun h => ⟨h, trivial⟩⟩
  | .child p c ps rs ns => ⟨by simp [Nd.fl1, Nd.cnt], fun h => ⟨h, trivial⟩, fun h => h.elim⟩
  | .place p k => ⟨by simp [Nd.fl1, Nd.cnt], fun h => ⟨h, trivial⟩, fun h => h.elim⟩
theorem Nd.fls_ok : ∀ ns : List Nd, (Nd.fls ns).length ≤ Nd.cnts ns ∧ (Nd.Poks ns → Nd.Poks (Nd.fls ns)) ∧ (Nd.Shns ns → Nd.Shns (Nd.fls ns))
  | [] => ⟨Nat.le_refl _, fun _ => trivial, fun _ => trivial⟩
  | n :: ns => by
    obtain ⟨a1, a2, a3⟩ := Nd.fl1_ok n
    obtain ⟨b1, b2, b3⟩ := Nd.fls_ok ns
    exact ⟨by simp only [Nd.fls, Nd.cnts, List.length_append]; omega, fun h => poks_app (b2 h.2) (a2 h.1), fun h => shns_app (b3 h.2) (a3 h.1)⟩
end
/-! ### the line from outside to a path -/
mutual
def Nd.ln1 (p : Path) : Nd → List Nd
  | .text q s => if q = p then [.text q s] else []
  | .box q t o a ns => if q = p then [.box q t o a ns] else if Nd.lns p ns = [] then [] else .box q t o a ns :: Nd.lns p ns
  | .input q t o c v => if q = p then [.input q t o c v] else []
  | .child q c ps rs ns => if q = p then [.child q c ps rs ns] else []
  | .place q k => if q = p then [.place q k] else []
def Nd.lns (p : Path) : List Nd → List Nd
  | [] => []
  | n :: ns => if n.ln1 p = [] then Nd.lns p ns else n.ln1 p
end
theorem lns_skip {p : Path} (b : List Nd) : ∀ a : List Nd, (∀ n ∈ a, n.ln1 p = []) → Nd.lns p (a ++ b) = Nd.lns p b
  | [], _ => rfl
  | n :: a, h => by
    simp only [List.cons_append, Nd.lns, if_pos (h n List.mem_cons_self)]
    exact lns_skip b a fun m hm => h m (List.mem_cons_of_mem _ hm)
mutual
theorem Nd.ln1_ok (p : Path) : ∀ n : Nd, (n.ln1 p).length ≤ n.ht + 1 ∧ (n.Pok → Nd.Poks (n.ln1 p)) ∧ (n.Shn → Nd.Shns (n.ln1 p))
  | .text q s => by
    simp only [Nd.ln1]
    split
    · exact ⟨by simp, fun h => ⟨h, trivial⟩, fun h => ⟨h, trivial⟩⟩
    · exact ⟨by simp, fun _ => trivial, fun _ => trivial⟩
  | .box q t o a ns => by
    obtain ⟨a1, a2, a3⟩ := Nd.lns_ok p ns
    simp only [Nd.ln1]
    split
    · exact ⟨by simp, fun h => ⟨h, trivial⟩, fun h => ⟨h, trivial⟩⟩
    · split
      · exact ⟨by simp, fun _ => trivial, fun _ => trivial⟩
      · exact ⟨by simp only [List.length_cons, Nd.ht]; omega, fun h => ⟨h, a2 h.2.2⟩, fun h => ⟨h, a3 h⟩⟩
  | .input q t o c v => by
    simp only [Nd.ln1]
    split
    · exact ⟨by simp, fun h => ⟨h, trivial⟩, fun h => ⟨h, trivial⟩⟩
    · exact ⟨by simp, fun _ => trivial, fun _ => trivial⟩
  | .child q c ps rs ns => by
    simp only [Nd.ln1]
    split
    · exact ⟨by simp, fun h => ⟨h, trivial⟩, fun h => h.elim⟩
    · exact ⟨by simp, fun _ => trivial, fun _ => trivial⟩
  | .place q k => by
    simp only [Nd.ln1]
    split
    · exact ⟨by simp, fun h => ⟨h, trivial⟩, fun h => h.elim⟩
    · exact ⟨by simp, fun _ => trivial, fun _ => trivial⟩
theorem Nd.lns_ok (p : Path) : ∀ ns : List Nd, (Nd.lns p ns).length ≤ Nd.hts ns + 1 ∧ (Nd.Poks ns → Nd.Poks (Nd.lns p ns)) ∧ (Nd.Shns ns → Nd.Shns (Nd.lns p ns))
  | [] => ⟨by simp [Nd.lns], fun _ => trivial, fun _ => trivial⟩
  | n :: ns => by
    obtain ⟨a1, a2, a3⟩ := Nd.ln1_ok p n
    obtain ⟨b1, b2, b3⟩ := Nd.lns_ok p ns
    simp only [Nd.lns, Nd.hts]
    split
    · exact ⟨by omega, fun h => b2 h.2, fun h => b3 h.2⟩
    · exact ⟨by omega, fun h => a2 h.1, fun h => a3 h.1⟩
end
/-- what an event means on a line, the innermost first -/
def meanOf : List Nd → Option (Path × Nat)
  | [] => none
  | .box _ _ o (some a) _ :: _ => some (o, a)
  | _ :: r => meanOf r
def meanT : Option (Path × Nat) → T
  | none => .non
  | some (o, a) => .tup [pathT o, .int (a : Int)]
def fieldOf (l : List Nd) : Option (Path × Nat) := match l.getLast? with
  | some (.input _ _ o c _) => some (o, c)
  | _ => none
theorem meanOf_pok : ∀ {l : List Nd}, Nd.Poks l → ∀ x ∈ meanOf l, PathOk x.1
  | [], _, x, h => by cases h
  | .box _ _ o (some a) _ :: r, hp, x, h => by cases h; exact hp.1.2.1
  | .box _ _ o none _ :: r, hp, x, h => meanOf_pok hp.2 x h
  | .text _ _ :: r, hp, x, h => meanOf_pok hp.2 x h
  | .input _ _ _ _ _ :: r, hp, x, h => meanOf_pok hp.2 x h
  | .child _ _ _ _ _ :: r, hp, x, h => meanOf_pok hp.2 x h
  | .place _ _ :: r, hp, x, h => meanOf_pok hp.2 x h
theorem meanT_dep {m : Option (Path × Nat)} (h : ∀ x ∈ m, PathOk x.1) (k : Nat) : Dep (k + 5) (meanT m) := by
  cases m with
  | none => exact .non _
  | some x => exact .tup _ _ (by simp) (by simp only [List.mem_cons, List.not_mem_nil, or_false, forall_eq_or_imp, forall_eq]; exact ⟨(h x rfl).dep k, (Dep.int _ _)⟩)
/-! ### a page's own shape -/
theorem poks_of : ∀ {a : List Nd}, (∀ n ∈ a, n.Pok) → Nd.Poks a
  | [], _ => trivial
  | n :: a, h => ⟨h n List.mem_cons_self, poks_of fun m hm => h m (List.mem_cons_of_mem _ hm)⟩
theorem hts_of {m : Nat} : ∀ {a : List Nd}, (∀ n ∈ a, n.ht ≤ m) → Nd.hts a ≤ m
  | [], _ => Nat.zero_le _
  | n :: a, h => by
    have := h n List.mem_cons_self
    have := hts_of fun m hm => h m (List.mem_cons_of_mem _ hm)
    simp only [Nd.hts]
    omega
theorem fill_ht (X : Pc) : ∀ (n : Nat) (o : Path) (c : Sc) (ts : List Tp) (p : Path), Nd.hts (fill X n o c ts p) ≤ n
  | 0, _, _, _, _ => Nat.zero_le _
  | n + 1, o, c, ts, p => by
    refine hts_of fun nd hnd => ?_
    simp only [fill] at hnd
    obtain ⟨it, _, rfl⟩ := List.mem_map.mp hnd
    generalize it.2.1 = t
    cases t with
    | box tag key act cs => simp only [nodeOf, Nd.ht]; have := fill_ht X n o { c with index := it.2.2 } cs (p ++ [it.1]); omega
    | child d key props => simp only [nodeOf, childOf, Nd.ht]; have := fill_ht X n (p ++ [it.1]) (X.sc (p ++ [it.1]) d (props.map (E.val { c with index := it.2.2 }))) (X.comp d).cs (p ++ [it.1]); omega
    | part k =>
      simp only [nodeOf]
      split
      · simp only [childOf, Nd.ht]; have := fill_ht X n (p ++ [it.1]) (X.sc (p ++ [it.1]) (X.g.parts.getD k 0) []) (X.comp (X.g.parts.getD k 0)).cs (p ++ [it.1]); omega
      · simp [Nd.ht]
    | _ => simp [nodeOf, Nd.ht]
theorem named_short : ∀ (ds : List Dr) (tk : List Nm), (∀ d ∈ ds, d.other.short) → (∀ d ∈ ds, d.wish.short) → ∀ x ∈ lawNamed tk ds, x.1.short
  | [], tk, _, _, x, h => nomatch h
  | d :: ds, tk, h1, h2, x, h => by
    simp only [lawNamed, List.mem_cons] at h
    rcases h with rfl | h
    · dsimp only
      unfold lawName
      have a := h1 d List.mem_cons_self
      have b := h2 d List.mem_cons_self
      cases e : d.wish with
      | key t v =>
        dsimp only
        rw [e] at b
        split
        · exact a
        · exact b
      | _ => dsimp only; rw [e] at b; exact b
    · exact named_short ds _ (fun y hy => h1 y (List.mem_cons_of_mem _ hy)) (fun y hy => h2 y (List.mem_cons_of_mem _ hy)) x h
mutual
theorem Tp.dis1_short : ∀ (t : Tp) (c : Sc) (addr reps : List Int), addr.length + 2 * t.dep ≤ 1000 → reps.length + t.dep ≤ 1000 → ∀ d ∈ t.dis1 c addr reps, d.other.short ∧ d.wish.short
  | .when e cs os, c, addr, reps, h1, h2, d, h => by
    simp only [Tp.dep] at h1 h2
    simp only [Tp.dis1] at h
    split at h
    · exact Tp.dis_short os c _ reps 0 (by simp; omega) (by omega) d h
    · exact Tp.dis_short cs c _ reps 0 (by simp; omega) (by omega) d h
  | .each e cs, c, addr, reps, h1, h2, d, h => by
    simp only [Tp.dep] at h1 h2
    simp only [Tp.dis1, List.mem_flatMap] at h
    obtain ⟨n, _, h⟩ := h
    exact Tp.dis_short cs _ addr _ 0 (by omega) (by simp; omega) d h
  | .text _, c, addr, reps, h1, h2, d, h | .show _, c, addr, reps, h1, h2, d, h | .input _ _, c, addr, reps, h1, h2, d, h => by
    simp only [Tp.dis1, List.mem_singleton] at h
    subst h
    exact ⟨⟨by omega, by omega⟩, ⟨by omega, by omega⟩⟩
  | .part k, c, addr, reps, h1, h2, d, h => by
    simp only [Tp.dis1, List.mem_singleton] at h
    subst h
    exact ⟨⟨by omega, by omega⟩, trivial⟩
  | .box _ key _ _, c, addr, reps, h1, h2, d, h | .child _ key _, c, addr, reps, h1, h2, d, h => by
    simp only [Tp.dis1, List.mem_singleton] at h
    subst h
    refine ⟨⟨by omega, by omega⟩, ?_⟩
    cases key with
    | none => exact ⟨by omega, by omega⟩
    | some e => show addr.length ≤ 1000; omega
theorem Tp.dis_short : ∀ (ts : List Tp) (c : Sc) (before reps : List Int) (k : Nat), before.length + 2 * Tp.deps ts + 1 ≤ 1000 → reps.length + Tp.deps ts ≤ 1000 → ∀ d ∈ Tp.dis c before reps k ts, d.other.short ∧ d.wish.short
  | [], c, before, reps, k, h1, h2, d, h => nomatch h
  | t :: ts, c, before, reps, k, h1, h2, d, h => by
    simp only [Tp.deps] at h1 h2
    simp only [Tp.dis, List.mem_append] at h
    rcases h with h | h
    · exact Tp.dis1_short t c _ reps (by simp; omega) (by omega) d h
    · exact Tp.dis_short ts c before reps (k + 1) (by omega) (by omega) d h
end
theorem fill_pok {X : Pc} (h : X.Ok) : ∀ (n own : Nat) (free : Bool) (o : Path) (c : Sc) (ts : List Tp) (p : Path), own ≤ X.g.comps.length - 1 → Tp.Oks own (X.g.comps.length - 1) free ts → Tp.deps ts ≤ 3 → PathOk o → PathOk p → p.length + n ≤ 400 → Nd.Poks (fill X n o c ts p)
  | 0, _, _, _, _, _, _, _, _, _, _, _, _ => trivial
  | n + 1, own, free, o, c, ts, p, ho, hk, hd, po, pp, hl => by
    have kid : ∀ (q : Path) (d : Nat) (props : List Int), d ≤ X.g.comps.length - 1 → PathOk q → q.length + n ≤ 400 → (childOf X (fill X n) (lkAll n) q d props).Pok := fun q d props h2 hq hl2 => by
      have cd := h.comp h2
      exact ⟨hq, fill_pok h n d true q (X.sc q d props) (X.comp d).cs q h2 cd.oks cd.deps hq hq hl2⟩
    refine poks_of fun nd hnd => ?_
    simp only [fill] at hnd
    obtain ⟨it, hit, rfl⟩ := List.mem_map.mp hnd
    have sh := named_short _ [] (fun d hd' => (Tp.dis_short ts c [] [] 0 (by simp; omega) (by simp; omega) d hd').1) (fun d hd' => (Tp.dis_short ts c [] [] 0 (by simp; omega) (by simp; omega) d hd').2) it hit
    obtain ⟨dd, hdd, h1, h2⟩ := lawNamed_tp _ _ it hit
    obtain ⟨a1, ⟨fr, a2⟩, a3, a4⟩ := Tp.dis_ok ts c [] [] 0 hk dd hdd
    rw [← h1] at a1 a2 a3
    have here : PathOk (p ++ [it.1]) := pp.snoc sh (by omega)
    have hl2 : (p ++ [it.1]).length + n ≤ 400 := by simp; omega
    generalize it.2.1 = t at a1 a2 a3
    cases t with
    | when _ _ _ => cases a1
    | each _ _ => cases a1
    | text s => exact here
    | «show» s => exact here
    | input _ _ => exact ⟨here, po⟩
    | box tag key act cs =>
      simp only [Tp.dep] at a3
      exact ⟨here, po, fill_pok h n own fr o { c with index := it.2.2 } cs (p ++ [it.1]) ho a2.2.2.2 (by omega) po here hl2⟩
    | child d key props => exact kid _ d _ a2.2.1 here hl2
    | part k =>
      simp only [nodeOf]
      split
      · rename_i hin
        have hk := h.pres k hin
        have hp := h.g.parts _ (List.getElem_mem hk)
        have e3 : X.g.parts.getD k 0 = X.g.parts[k] := by rw [List.getD_eq_getElem?_getD, List.getElem?_eq_getElem hk]; rfl
        rw [e3]
        exact kid _ _ _ (by omega) here hl2
      · exact here
/-! ### promises -/
def spShown (n : Nat) : Sp := fun vs H Q _ => ∃ (ns : List Nd) (v : V), vs = [v] ∧ IsT H (.tup (Nd.toTs ns)) v ∧ Nd.hts ns < n ∧ Nd.cnts ns ≤ 80000 ∧
  ∀ r H', IsT H' (.tup (Nd.toTs (Nd.shs ns))) r → Oth [] H H' → Q r H'
def spFlat (n : Nat) : Sp := fun vs H Q _ => ∃ (ns : List Nd) (v : V), vs = [v] ∧ IsT H (.tup (Nd.toTs ns)) v ∧ Nd.hts ns < n ∧ Nd.cnts ns ≤ 80000 ∧
  ∀ p H' rs, H p = none → H' p = some (.lst rs) → Paired (IsT H') ((Nd.fls (Nd.shs ns)).map Nd.toT) rs → Oth [] H H' → Q (.ref p) H'
def spChain (n : Nat) : Sp := fun vs H Q _ => ∃ (ns : List Nd) (p : Path) (v vp : V), vs = [v, vp] ∧ IsT H (.tup (Nd.toTs ns)) v ∧ IsT H (pathT p) vp ∧ Nd.hts ns < n ∧ Nd.Poks ns ∧ PathOk p ∧ n ≤ 1000 ∧
  ∀ q H' rs, H q = none → H' q = some (.lst rs) → Paired (IsT H') ((Nd.lns p ns).map Nd.toT) rs → Oth [] H H' → Q (.ref q) H'
def spLine (n : Nat) : Sp := fun vs H Q _ => ∃ (ns : List Nd) (p : Path) (v vp : V), vs = [v, vp] ∧ IsT H (.tup (Nd.toTs ns)) v ∧ IsT H (pathT p) vp ∧ Nd.hts ns < n ∧ Nd.Poks ns ∧ PathOk p ∧ n ≤ 1000 ∧
  ∀ r H', IsT H' (.tup (Nd.toTs (Nd.lns p ns))) r → Oth [] H H' → Q r H'
def spMean (n : Nat) : Sp := fun vs H Q _ => ∃ (ns : List Nd) (p : Path) (v vp : V), vs = [v, vp] ∧ IsT H (.tup (Nd.toTs ns)) v ∧ IsT H (pathT p) vp ∧ Nd.hts ns < n ∧ Nd.Poks ns ∧ PathOk p ∧ n ≤ 1000 ∧
  ∀ r H', IsT H' (meanT (meanOf (Nd.lns p ns).reverse)) r → Oth [] H H' → Q r H'
def spField (n : Nat) : Sp := fun vs H Q _ => ∃ (ns : List Nd) (p : Path) (v vp : V), vs = [v, vp] ∧ IsT H (.tup (Nd.toTs ns)) v ∧ IsT H (pathT p) vp ∧ Nd.hts ns < n ∧ Nd.Poks ns ∧ PathOk p ∧ n ≤ 1000 ∧
  ∀ r H', IsT H' (meanT (fieldOf (Nd.lns p ns))) r → Oth [] H H' → Q r H'
def Nd.kind : Nd → Str
  | .text _ _ => "text" | .box .. => "box" | .input .. => "input" | .child .. => "child" | .place .. => "place"
theorem Nd.kindAt {H : Hp} {v : V} : ∀ (n : Nd), IsT H n.toT v → ∃ a vp r, v = .ref a ∧ H a = some (.tup (.str n.kind :: vp :: r)) ∧ IsT H (pathT n.path) vp
  | .text .., h => by obtain ⟨a, _, x, y, rfl, e, p, q, _⟩ := IsT.inv3 h; rw [p.of_str] at e; exact ⟨a, _, _, rfl, e, q⟩
  | .box .., h => by
    obtain ⟨a, xs, rfl, e, p⟩ := IsT.inv h
    cases p with | cons r1 p => cases p with | cons r2 p => rw [r1.of_str] at e; exact ⟨a, _, _, rfl, e, r2⟩
  | .input .., h => by
    obtain ⟨a, xs, rfl, e, p⟩ := IsT.inv h
    cases p with | cons r1 p => cases p with | cons r2 p => rw [r1.of_str] at e; exact ⟨a, _, _, rfl, e, r2⟩
  | .child .., h => by
    obtain ⟨a, xs, rfl, e, p⟩ := IsT.inv h
    cases p with | cons r1 p => cases p with | cons r2 p => rw [r1.of_str] at e; exact ⟨a, _, _, rfl, e, r2⟩
  | .place .., h => by obtain ⟨a, _, x, y, rfl, e, p, q, _⟩ := IsT.inv3 h; rw [p.of_str] at e; exact ⟨a, _, _, rfl, e, q⟩
theorem IsT.inv6 {H : Hp} {v : V} {t1 t2 t3 t4 t5 t6 : T} (h : IsT H (.tup [t1, t2, t3, t4, t5, t6]) v) : ∃ a x1 x2 x3 x4 x5 x6, v = .ref a ∧ H a = some (.tup [x1, x2, x3, x4, x5, x6]) ∧ IsT H t1 x1 ∧ IsT H t2 x2 ∧ IsT H t3 x3 ∧ IsT H t4 x4 ∧ IsT H t5 x5 ∧ IsT H t6 x6 := by
  obtain ⟨a, xs, rfl, e, p⟩ := h.inv
  cases p with | cons p1 p => cases p with | cons p2 p => cases p with | cons p3 p => cases p with | cons p4 p => cases p with | cons p5 p => cases p with | cons p6 p => cases p; exact ⟨a, _, _, _, _, _, _, rfl, e, p1, p2, p3, p4, p5, p6⟩
theorem IsT.mk6 {H : Hp} {a : Addr} {t1 t2 t3 t4 t5 t6 : T} {x1 x2 x3 x4 x5 x6 : V} (e : H a = some (.tup [x1, x2, x3, x4, x5, x6])) (p1 : IsT H t1 x1) (p2 : IsT H t2 x2) (p3 : IsT H t3 x3) (p4 : IsT H t4 x4) (p5 : IsT H t5 x5) (p6 : IsT H t6 x6) : IsT H (.tup [t1, t2, t3, t4, t5, t6]) (.ref a) :=
  .mk e (.cons p1 (.cons p2 (.cons p3 (.cons p4 (.cons p5 (.cons p6 .nil))))))
theorem Nd.pok_path {n : Nd} (h : n.Pok) : PathOk n.path := by
  cases n with
  | text _ _ => exact h
  | place _ _ => exact h
  | _ => exact h.1
end Pw
namespace Pw
open PySem PySem.Spec PyProof.Rows L2
/-- a for over a tuple, backwards -/
theorem for_revT {K : PySem.W.Frag} {a : Addr} {xs : List V} {g : TG} {tb : TS} {D : Ends} {σ : L2.St} {H : Hp} (Pv : Nat → L2.St → Hp → Prop) (first : Pv 0 σ H) (stays : ∀ i σ H, Pv i σ H → SqT K H a xs)
    (turn : ∀ i x σ H, i < xs.length → xs[xs.length - 1 - i]? = some x → Pv i σ H → g x σ H fun σ2 H2 => tb { D with nx := Pv (i + 1), ct := Pv (i + 1), bk := D.nx } σ2 H2) (last : ∀ σ H, Pv xs.length σ H → D.nx σ H) :
    ∃ W : Nat → Nat → L2.St → Hp → Prop, (∃ m, W 0 m σ H) ∧ ∀ i m σ H, W i m σ H →
      ((RT.ItvT K a xs.length).stop i H ∧ D.nx σ H) ∨ ((RT.ItvT K a xs.length).go i H ∧ ∃ N : L2.St → Hp → Prop, (∀ σ' H', N σ' H' → ∃ m', m' < m ∧ W (i + 1) m' σ' H') ∧ ∀ x H', (RT.ItvT K a xs.length).yld i H x H' → g x σ H' fun σ2 H2 => tb { D with nx := N, ct := N, bk := D.nx } σ2 H2) := by
  refine ⟨fun i m σ H => m + i = xs.length ∧ Pv i σ H, ⟨xs.length, rfl, first⟩, ?_⟩
  rintro i m σ H ⟨e, p⟩
  have st := stays i σ H p
  rcases Nat.lt_or_ge i xs.length with lt | ge
  · have ex : xs[xs.length - 1 - i]? = some (xs[xs.length - 1 - i]'(by omega)) := List.getElem?_eq_getElem _
    refine .inr ⟨⟨lt, xs, _, st, ex⟩, Pv (i + 1), fun σ' H' p' => ⟨m - 1, by omega, by omega, p'⟩, fun x H' y => ?_⟩
    obtain ⟨rfl, y⟩ := y
    exact turn i x σ _ lt (y xs st) p
  · obtain rfl : i = xs.length := by omega
    exact .inl ⟨Nat.le_refl _, last σ H p⟩
theorem ln1_hit {p : Path} {n : Nd} (h : n.path = p) : n.ln1 p = [n] := by
  cases n <;> (simp only [Nd.path] at h; simp only [Nd.ln1, if_pos h])
theorem ln1_leaf {p : Path} {n : Nd} (h : n.path ≠ p) (hb : n.kind ≠ "box") : n.ln1 p = [] := by
  cases n with
  | box _ _ _ _ _ => exact absurd rfl hb
  | _ => (simp only [Nd.path] at h; simp only [Nd.ln1, if_neg h])
theorem lns_drop {p : Path} {ns : List Nd} {j : Nat} {n : Nd} (gn : ns[j]? = some n) (h : ∀ m ∈ ns.take j, m.ln1 p = []) (hn : n.ln1 p ≠ []) : Nd.lns p ns = n.ln1 p := by
  have hj : j < ns.length := (List.getElem?_eq_some_iff.mp gn).1
  have e3 : n = ns[j] := by rw [List.getElem?_eq_getElem hj] at gn; exact (Option.some.inj gn).symm
  have e1 : ns = ns.take j ++ n :: ns.drop (j + 1) := by rw [e3, ← List.drop_eq_getElem_cons hj, List.take_append_drop]
  rw [e1, lns_skip _ _ h, Nd.lns, if_neg hn]
theorem lns_none {p : Path} : ∀ {ns : List Nd}, (∀ m ∈ ns, m.ln1 p = []) → Nd.lns p ns = []
  | [], _ => rfl
  | n :: ns, h => by
    rw [Nd.lns, if_pos (h n List.mem_cons_self)]
    exact lns_none fun m hm => h m (List.mem_cons_of_mem _ hm)
theorem take_none {p : Path} {ns : List Nd} {j : Nat} {n : Nd} (gn : ns[j]? = some n) (h : ∀ m ∈ ns.take j, m.ln1 p = []) (hn : n.ln1 p = []) : ∀ m ∈ ns.take (j + 1), m.ln1 p = [] := fun m hm => by
  rw [take_snoc gn] at hm
  rcases List.mem_append.mp hm with q | q
  · exact h m q
  · rw [List.mem_singleton.mp q]; exact hn
/-- a node that an event means something on -/
def Nd.acts : Nd → Option (Path × Nat)
  | .box _ _ o (some a) _ => some (o, a)
  | _ => none
theorem meanOf_skip (b : List Nd) : ∀ a : List Nd, (∀ n ∈ a, n.acts = none) → meanOf (a ++ b) = meanOf b
  | [], _ => rfl
  | n :: a, h => by
    have h1 := h n List.mem_cons_self
    have ih := meanOf_skip b a fun m hm => h m (List.mem_cons_of_mem _ hm)
    rw [List.cons_append]
    cases n with
    | box q t o act inner =>
      cases act with
      | none => exact ih
      | some x => cases h1
    | _ => exact ih
theorem meanOf_hit {n : Nd} {x : Path × Nat} (h : n.acts = some x) (r : List Nd) : meanOf (n :: r) = some x := by
  cases n with
  | box q t o act inner =>
    cases act with
    | none => cases h
    | some y => exact h
  | _ => cases h
theorem meanOf_none : ∀ {l : List Nd}, (∀ n ∈ l, n.acts = none) → meanOf l = none := fun {l} h => by
  have := meanOf_skip [] l h
  simpa [meanOf] using this
theorem rev_take {α : Type} {l : List α} {i : Nat} {x : α} (h : l[l.length - 1 - i]? = some x) (hi : i < l.length) : l.reverse[i]? = some x := by
  rw [List.getElem?_reverse hi]
  exact h
theorem sl_last {K : PySem.W.Frag} {H : Hp} {a : Addr} {xs : List V} {Q : VK} (ha : H a = some (.tup xs)) (q : ∀ (c : Addr) (H' : Hp), Oth [] H H' → H' c = some (.tup (xs.drop (xs.length - 1))) → Q (.ref c) H') : rSlA K (.ref a) (some (-1)) none H Q := by
  have e : HT.sIx xs.length 0 (some (-1)) = xs.length - 1 := by
    show (if (-1 : Int) < 0 then ((-1 : Int) + (xs.length : Int)).toNat else min (-1 : Int).toNat xs.length) = _
    rw [if_pos (by decide)]
    omega
  refine ⟨a, xs, rfl, SqT.of ha, fun h => ?_, fun h p hp => ?_⟩
  · have z := h.1
    rw [e] at z
    exact q a H Oth.refl (by rw [z, List.drop_zero]; exact ha)
  · refine q p _ (Oth.new hp) ?_
    rw [upd_same]
    unfold cutV
    rw [HT.sIx_none, e, List.take_of_length_le (by rw [List.length_drop]; omega)]
end Pw
namespace Pw
open PySem PySem.Spec PyProof.Rows L2
section
variable {X : Cx}
/-- one pair is put in -/
theorem dictSetN {pins : List (Addr × Obj)} {σ : L2.St} {H : Hp} {s : Shared} {E : Value → Shared → Prop} {a : Addr} {y z : V} {u r : Value} {Nx : Hp → Prop} {Q : Unit → Shared → Prop} (hu : X.A.units + 20 < cLine) (I : Inv X pins σ H s) (ry : RelV y u) (rz : RelV z r)
    (h : rSetN X.prog X.w (.ref a) y z H Nx) (q : ∀ s' H', Inv X pins σ H' s' → Nx H' → Q () s') : wpAny (model X.prog X.w) X.A (dictSet a u r) Q E s := by
  obtain ⟨_, b, k, kvs, e, rfl, hk, hd, hl, nx⟩ := h
  cases e
  obtain rfl : u = Value.ref b := ry
  obtain ⟨φ, ea⟩ := hd.is
  obtain ⟨xs, zl, hs, rel, dd⟩ := hd.open I.hok
  have hx : xs.length ≤ sizeLine := by rw [← Paired.length rel]; exact zl
  have key := hk.ok (P := X.prog) (w := X.w) I.hok
  unfold dictSet
  refine wpAny_holding (wpAny_bind ((nestedKind X.prog X.w).pyHash (by show X.A.units + 8 < cLine; omega) key ?_))
  refine wpAny_dictSetHashed_heap (knd := nestedKind X.prog X.w) (s := { s with toks := s.toks + (nestedKind X.prog X.w).draws k }) (hsz := hx) (by show X.A.units + 8 < cLine; omega) key dd fun h' dd' hs' => ?_
  have he : ∃ o, h'.get? a = some o := let ⟨o, _, _, ho, _⟩ := dd'; ⟨o, ho⟩
  have ot : Oth [a] H (upd H a (.ext (NDφ X.prog X.w a (storedH xs k b r)))) := ⟨fun c o' n e => by rw [upd_ne (fun z => n (by rw [z]; simp))]; exact e, fun c ys e => by rw [upd_ne (ne_of e ea (fun z => nomatch z))]; exact e⟩
  exact q _ _ (d_write (I.tok _) (by rw [ea]; exact True.intro) hs' he (ND_ok dd')) (nx _ ot ⟨_, upd_same, by have := length_putK kvs k z; omega, hs, (rel.put k hk rz).oth ot⟩)
/-- what one writes of such a comprehension: its iterable, its target, key and value; the new dict grows -/
def tDcN (P : Program) (w : World) (wi : TI) (g : TG) (tk tv : TE) (vs : List Nat) : TE := fun σ H Q => wi σ H fun J H1 => ∀ D H2, H1 D = none → Oth [] H1 H2 → DN P w H2 D [] → ∃ W : Nat → Nat → Hp → Prop, (∃ m, W 0 m H2) ∧ ∀ i m H3, W i m H3 →
  (J.stop i H3 ∧ Q (.ref D) H3) ∨ (J.go i H3 ∧ ∃ Nx : Hp → Prop, (∀ H4, Nx H4 → ∃ m', m' < m ∧ W (i + 1) m' H4) ∧ ∀ x H4, J.yld i H3 x H4 → g x (wipe σ vs) H4 fun σ5 H5 => wipe σ5 vs = wipe σ vs ∧ tk σ5 H5 fun y H6 => tv σ5 H6 fun z H7 => rSetN P w (.ref D) y z H7 Nx)
theorem dcN_core {pins : List (Addr × Obj)} {s : Shared} {σ : L2.St} {H : Hp} {Q : VK} {kx vx tg iter : Expr} {scope : Scope} {own : List (Str × Nat)} {pos pos' : Pos} {wi : TI} {g : TG} {tk tv : TE} {use : Option (Value → Sem Unit)} {Qf : Value → Shared → Prop}
    (hu : X.A.units + 20 < cLine) (calm : X.calm = true) (nd : X.N.Nodup) (I : Inv X pins σ H s) (pi : PI X tg iter wi) (ok : BlkOk X.N X.env.scope scope own)
    (hg : ∀ s H C cl fp, PG (X.blk s H scope (compEnvC scope cl C X.env) fp) tg g) (hk : ∀ s H C cl fp, PE (X.blk s H scope (compEnvC scope cl C X.env) fp) kx tk)
    (hv : ∀ s H C cl fp, PE (X.blk s H scope (compEnvC scope cl C X.env) fp) vx tv) (fold : ∀ x, foldedSetIterable iter X.env x = pure x)
    (h : tDcN X.prog X.w wi g tk tv (own.map (·.2)) σ H Q)
    (post : ∀ D C s' m H', Inv X pins σ H' s' → Q (.ref D) H' → s'.heap.Ns C m → FpOk X pins H' C → compPost (model X.prog X.w) X.A X.xe use Qf (.ref D) C (.ok .next) s') :
    wpAny (model X.prog X.w) X.A (comprehension (.DictComp kx vx [⟨tg, iter, [], 0⟩] scope pos) scope X.env pos' newDict false (eval iter X.env) use) Qf X.xe s := by
  have fr : ∀ y ∈ scope.names, y.2 = .free → ∃ c, X.env.cells.lookup y.1 = some c := fun y hy e => (ok.free y hy e).elim (fun k => I.ok.has _ (.inl k)) fun k => I.ok.has _ (.inr k)
  refine wpAny_comprehension_free rfl fold (closure_ok fr) ok.kind (fun y hy e => (ok.uniq y hy).trans (congrArg some e)) (thn (pi.run pins s σ H _ I h) fun xv sA hA => thn hA fun itv sB hB => ?_)
  obtain ⟨it, fp, tn, J, HB, rfl, IB, T, stB, fB, q⟩ := hB
  refine wpAny_newObj_type (newEnv_comp ?_)
  obtain ⟨D, eD⟩ : ∃ D, D = sB.heap.objs.size := ⟨_, rfl⟩
  rw [← eD]
  have noD : HB D = none := IB.hok.fresh (Nat.le_of_eq eD.symm)
  obtain ⟨sC, eC⟩ : ∃ sC : Shared, sC = { sB with heap := sB.heap.push { cls := .type "dict", data := .dict #[] } } := ⟨_, rfl⟩
  obtain ⟨HC, eH⟩ : ∃ HC : Hp, HC = upd HB D (.ext (NDφ X.prog X.w D [])) := ⟨_, rfl⟩
  have big : (D == sysModules) = false := beq_eq_false_iff_ne.mpr (by rw [eD]; exact Ne.symm (Nat.ne_of_lt IB.big))
  have IC : Inv X pins σ HC sC := by
    rw [eC, eH]
    exact IB.laid (t' := sB.toks) (fun _ _ e => Heap.get?_push_of_some _ e) (Nat.le_of_eq eD.symm) (by rw [eD]; exact ND_ok (Heap.DictOfH.new sB.heap))
  have dn0 : DN X.prog X.w HC D [] := by rw [eH]; exact ⟨[], upd_same, Nat.zero_le _, big, .nil⟩
  have oC : Oth [] HB HC := by rw [eH]; exact Oth.new noD
  obtain ⟨W, ⟨m0, w0⟩, turn⟩ := q D HC noD oC dn0
  have keptC : ∀ b o, sB.heap.get? b = some o → sC.heap.get? b = some o := fun b o e => by rw [eC]; exact Heap.get?_push_of_some _ e
  have fC : ∀ b ∈ fp, FpOk X pins HC b ∧ b < sC.heap.objs.size := fun b hb => by
    obtain ⟨o, e, _⟩ := T.obj _ _ stB b hb
    have lt := Heap.lt_size e
    exact ⟨⟨by rw [eH, upd_ne (by rw [eD]; exact Nat.ne_of_lt lt)]; exact (fB b hb).1, (fB b hb).2⟩, Heap.lt_size (keptC b o e)⟩
  have ID := block_start IC ok nd fC
  have gG := hg sC HC sC.heap.objs.size (cellsFrom (sC.heap.objs.size + 1) scope.names (cloFrom X.env.cells scope.names [])) fp
  have gK := hk sC HC sC.heap.objs.size (cellsFrom (sC.heap.objs.size + 1) scope.names (cloFrom X.env.cells scope.names [])) fp
  have gV := hv sC HC sC.heap.objs.size (cellsFrom (sC.heap.objs.size + 1) scope.names (cloFrom X.env.cells scope.names [])) fp
  have none0 : ∀ b ∈ fp, HC b = none := fun b hb => (fC b hb).1.1
  rw [← eC]
  show codeAny _ _ (.compStart (.DictComp kx vx [⟨tg, iter, [], 0⟩] scope pos) 0 (.ref it) (.ref D) (compEnvC scope (cellsFrom (sC.heap.objs.size + 1) scope.names (cloFrom X.env.cells scope.names [])) sC.heap.objs.size X.env)) (compPost (model X.prog X.w) X.A X.xe use Qf (.ref D) sC.heap.objs.size) { sC with heap := pushCells (sC.heap.push { cls := .type "dict", data := .dict #[] }) scope.names }
  obtain ⟨ce, ece⟩ : ∃ ce, ce = compEnvC scope (cellsFrom (sC.heap.objs.size + 1) scope.names (cloFrom X.env.cells scope.names [])) sC.heap.objs.size X.env := ⟨_, rfl⟩
  rw [← ece] at ID gG gK gV ⊢
  have loc : ce.locals = sC.heap.objs.size := by rw [ece]; rfl
  obtain ⟨sD, eSD⟩ : ∃ sD : Shared, sD = { sC with heap := pushCells (sC.heap.push { cls := .type "dict", data := .dict #[] }) scope.names } := ⟨_, rfl⟩
  rw [← eSD] at ID ⊢
  have stD : tn 0 sD.heap := T.keep _ _ _ stB fun b _ o e => by rw [eSD]; exact pushCells_keeps _ _ _ _ (Heap.get?_push_of_some _ (keptC b o e))
  have foot : ∀ {τ : L2.St} {G : Hp} {u : Shared}, Inv (X.blk sC HC scope ce fp) [] τ G u → (∀ b ∈ fp, G b = none) → ∀ b ∈ fp, FpOk (X.blk sC HC scope ce fp) [] G b := fun J nn b hb =>
    ⟨nn b hb, (J.ok.exf b hb).1, J.ok.exfs b hb, .inl hb, fun x c e => (J.ok.exf b hb).2 x c e, fun p hp => by cases (show p ∈ ([] : List (Addr × Obj)) from hp)⟩
  have go : codeAny (model X.prog X.w) X.A (.compLoop (.DictComp kx vx [⟨tg, iter, [], 0⟩] scope pos) 0 (.ref it) (.ref D) ce) (compPost (model X.prog X.w) X.A X.xe use Qf (.ref D) sC.heap.objs.size) sD := by
    refine compLoop_anyD (fun n u => ∃ i G, Inv (X.blk sC HC scope ce fp) [] (wipe σ (own.map (·.2))) G u ∧ tn i u.heap ∧ (∀ b ∈ fp, G b = none) ∧ W i n G) (fun n u hI => ?_) m0 ⟨0, HC, ID, stD, none0, w0⟩
    obtain ⟨i, G, IG, stG, nG, wG⟩ := hI
    rcases turn i n G wG with ⟨stop, qq⟩ | ⟨go, Nx, hNx, step⟩
    · refine thnF (T.done (X.blk sC HC scope ce fp) rfl rfl rfl calm i [] u _ G (fun _ _ => False) IG (foot IG nG) stG stop) fun r u2 ⟨hr, I2⟩ => ?_
      subst hr
      have back : Inv X pins σ G u2 := IC.call' (ch := fp) I2.os I2.base I2.hok I2.bare fun b hb => let z := (fC b hb).1.2; ⟨z.2.2.1, z.1, z.2.2.2.1, z.2.2.2.2⟩
      have nl : G ce.locals = none := I2.free
      obtain ⟨m, hn, _⟩ := I2.loc
      have hn : u2.heap.Ns ce.locals m := hn
      rw [loc] at nl hn
      exact post D sC.heap.objs.size u2 m G back qq hn (IC.fpOk (Nat.le_refl _) nl)
    · refine thnF (T.item (X.blk sC HC scope ce fp) rfl rfl rfl calm i [] u _ G (fun _ _ => False) IG (foot IG nG) stG go) fun r u2 ⟨v, hr, h2⟩ => ?_
      subst hr
      refine thnF h2 fun _ u3 ⟨x, G3, I3, r3, y3, st3, n3⟩ => ?_
      refine thnF (gG.run _ u3 _ G3 x v _ (I3.pinned (foot I3 n3) (T.obj _ _ st3)) r3 (step x G3 y3)) fun _ u4 ⟨σ4, G4, I4, w4, q4⟩ => ?_
      refine wpAny_pure ?_
      show wpAny _ _ _ _ _ _
      refine thnF (gK.run _ u4 σ4 G4 _ I4 q4) fun ky u5 ⟨y5, G5, I5, r5, q5⟩ => ?_
      refine thnF (gV.run _ u5 σ4 G5 _ I5 q5) fun vy u6 ⟨y6, G6, I6, r6, q6⟩ => ?_
      refine dictSetN (X := X.blk sC HC scope ce fp) hu I6 r5 r6 q6 fun u7 G7 I7 nx => ?_
      obtain ⟨m', lt, w7⟩ := hNx G7 nx
      have pinned : ∀ b ∈ fp, ∀ o, u3.heap.get? b = some o → u7.heap.get? b = some o ∧ G7 b = none := fun b hb o e =>
        let z := I7.pin (b, o) (List.mem_append_right _ (List.mem_append_right _ (mem_pinsAt hb e)))
        ⟨z.1, z.2.1⟩
      refine ⟨m', lt, i + 1, G7, (I7.unpinned (pins := [])).weak (by rw [← w4, wipe_length]) (fun j v' e => by rw [← w4] at e; exact (wipe_some e).1), T.keep _ _ _ st3 fun b hb o e => (pinned b hb o e).1, fun b hb => ?_, w7⟩
      obtain ⟨o, e, _⟩ := T.obj _ _ st3 b hb
      exact (pinned b hb o e).2
  exact codeAny_compStart_dict go (T.self X.A 0 _ _ _ stD go)
theorem pe_dcN {kx vx tg iter : Expr} {scope : Scope} {own : List (Str × Nat)} {pos : Pos} {wi : TI} {g : TG} {tk tv : TE} (hu : X.A.units + 20 < cLine) (calm : X.calm = true) (nd : X.N.Nodup) (pi : PI X tg iter wi) (ok : BlkOk X.N X.env.scope scope own)
    (hg : ∀ s H C cl fp, PG (X.blk s H scope (compEnvC scope cl C X.env) fp) tg g) (hk : ∀ s H C cl fp, PE (X.blk s H scope (compEnvC scope cl C X.env) fp) kx tk)
    (hv : ∀ s H C cl fp, PE (X.blk s H scope (compEnvC scope cl C X.env) fp) vx tv) (fold : ∀ x, foldedSetIterable iter X.env x = pure x := by intro _; rfl) :
    PE X (.DictComp kx vx [⟨tg, iter, [], 0⟩] scope pos) (tDcN X.prog X.w wi g tk tv (own.map (·.2))) := ⟨fun pins s σ H Q I h => by
  rw [arm_eval_DictComp]
  exact dcN_core hu calm nd I pi ok hg hk hv fold h fun D C s' m H' I' q ns fo => ⟨m, ns, fun h'' sb => ⟨.ref D, H', I'.turned (t' := s'.toks) (fun b o hb e => (sb.2 b hb).trans e) fo.1 fo.2.1 fo.2.2.2.1 fo.2.2.2.2.1 fo.2.2.2.2.2, rfl, q⟩⟩⟩
theorem ps_setDcN {i : Nat} {y : Str} {py : Pos} {kx vx tg iter : Expr} {scope : Scope} {own : List (Str × Nat)} {pos spos : Pos} {wi : TI} {g : TG} {tk tv : TE} (hu : X.A.units + 20 < cLine) (calm : X.calm = true) (nd : X.N.Nodup) (hy : X.N[i]? = some y) (yl : X.env.scope.names.lookup y = some .local)
    (sw : swapsWith (.DictComp kx vx [⟨tg, iter, [], 0⟩] scope pos) (some (.Name y py)) spos.line X.env = pure true) (pi : PI X tg iter wi) (ok : BlkOk X.N X.env.scope scope own)
    (hg : ∀ s H C cl fp, PG (X.blk s H scope (compEnvC scope cl C X.env) fp) tg g) (hk : ∀ s H C cl fp, PE (X.blk s H scope (compEnvC scope cl C X.env) fp) kx tk)
    (hv : ∀ s H C cl fp, PE (X.blk s H scope (compEnvC scope cl C X.env) fp) vx tv) (fold : ∀ x, foldedSetIterable iter X.env x = pure x := by intro _; rfl) :
    PS X (.Assign [.Name y py] (.DictComp kx vx [⟨tg, iter, [], 0⟩] scope pos) spos) (tAsg (tDcN X.prog X.w wi g tk tv (own.map (·.2))) (gName i)) := ⟨fun pins s σ H D I h => by
  rw [exec_Assign_Name_used _ _ _ _ sw]
  refine wpAny_bind (wpAny_standAt (wpAny_bind ?_))
  show wpAny _ X.A (do let _ ← comprehension (.DictComp kx vx [⟨tg, iter, [], 0⟩] scope pos) scope X.env (firstIterPos [⟨tg, iter, [], 0⟩] pos) newDict false (eval iter X.env) (some (assign (.Name y py) X.env))) _ _ s
  have h : tDcN X.prog X.w wi g tk tv (own.map (·.2)) σ H (fun x H1 => gName i x σ H1 D.nx) := h
  refine wpAny_bind (thn (dcN_core (Qf := fun _ u => SP X pins D .next u) hu calm nd I pi ok hg hk hv fold h fun L C u m H' I' q ns fo => ?_) fun _ u hq => wpAny_pure (wpAny_pure hq))
  show wpAny _ _ (assign (.Name y py) X.env (.ref L)) _ _ _
  refine wpAny_assign_Name (store_ok2 (v := V.ref L) I' nd hy (.inl yl) rfl (fun u2 I2 ⟨a, sb, ha⟩ => ?_) (.inr yl))
  have apart : C ≠ a := ha.elim (fun z => by rw [z]; exact fo.2.1) fun z e => fo.2.2.2.2.1 y a z e.symm
  exact ⟨m, ns.sameBut sb apart, fun h3 sb3 => ⟨_, H', I2.turned (t' := u2.toks) (fun b o hb e => (sb3.2 b hb).trans e) fo.1 fo.2.1 fo.2.2.2.1 fo.2.2.2.2.1 fo.2.2.2.2.2, q⟩⟩⟩
theorem swD_true {kx vx : Expr} {gs : List Comprehension} {scope : Scope} {pos py : Pos} {y : Str} {l : Nat} {env : Env} (fn : env.scope.kind = .function) (loc : env.scope.names.lookup y = some .local) (hl : (py.line == pos.line) = true)
    (own : (scope.names.any fun (n, k) => n == y && (k == .local || k == .cell)) = false) : swapsWith (.DictComp kx vx gs scope pos) (some (.Name y py)) l env = pure true := by
  have ky : env.kindOf y = some .local := loc
  have hb : env.blockKind = .function := by unfold Env.blockKind; rw [fn]; rfl
  unfold swapsWith
  simp only [hb, ky, own, Expr.pos, hl]
  rfl
/-- over a tuple of pairs that stays -/
theorem dcN_tup {P : Program} {w : World} {K : PySem.W.Frag} {a : Addr} {xs : List V} {g : TG} {tk tv : TE} {vs : List Nat} {σ : L2.St} {H2 : Hp} {D : Addr} {Qd : Hp → Prop} (Pv : Nat → Hp → Prop) (h0 : Pv 0 H2) (stay : ∀ i H, i ≤ xs.length → Pv i H → SqT K H a xs)
    (one : ∀ i x H, xs[i]? = some x → Pv i H → g x (wipe σ vs) H fun σ5 H5 => wipe σ5 vs = wipe σ vs ∧ tk σ5 H5 fun y H6 => tv σ5 H6 fun z H7 => rSetN P w (.ref D) y z H7 (Pv (i + 1))) (end' : ∀ H, Pv xs.length H → Qd H) :
    ∃ W : Nat → Nat → Hp → Prop, (∃ m, W 0 m H2) ∧ ∀ i m H3, W i m H3 → ((Itt K a).stop i H3 ∧ Qd H3) ∨ ((Itt K a).go i H3 ∧ ∃ Nx : Hp → Prop, (∀ H4, Nx H4 → ∃ m', m' < m ∧ W (i + 1) m' H4) ∧ ∀ x H4, (Itt K a).yld i H3 x H4 → g x (wipe σ vs) H4 fun σ5 H5 => wipe σ5 vs = wipe σ vs ∧ tk σ5 H5 fun y H6 => tv σ5 H6 fun z H7 => rSetN P w (.ref D) y z H7 Nx) := by
  refine ⟨fun i m H => m + i = xs.length ∧ Pv i H, ⟨xs.length, rfl, h0⟩, fun i m H3 hW => ?_⟩
  obtain ⟨em, p⟩ := hW
  have sq := stay i H3 (by omega) p
  rcases Nat.lt_or_ge i xs.length with lt | ge
  · refine .inr ⟨⟨xs, xs[i], sq, List.getElem?_eq_getElem lt⟩, Pv (i + 1), fun H4 p' => ⟨m - 1, by omega, by omega, p'⟩, fun x H4 y => ?_⟩
    obtain ⟨e, y⟩ := y
    cases e
    exact one i x H3 (y xs sq) p
  · obtain rfl : i = xs.length := by omega
    exact .inl ⟨⟨xs, sq, Nat.le_refl _⟩, end' H3 p⟩
/-! ### d.get(key, other) -/
def tGetN (P : Program) (w : World) (td ty tx : TE) : TE := fun σ H Q => td σ H fun x H1 => ∃ a, x = .ref a ∧ (∃ kvs, DN P w H1 a kvs) ∧ ty σ H1 fun y H2 => tx σ H2 fun z H3 => ∃ b k kvs, y = .ref b ∧ NKey H3 k b ∧ DN P w H3 a kvs ∧ Q ((valV kvs k).getD z) H3
theorem pe_getN {o e f : Expr} {apos cpos : Pos} {td ty tx : TE} (hu : X.A.units + 20 < cLine) (ho : PE X o td) (he : PE X e ty) (hf : PE X f tx) (m : M2 X o "get" apos e f cpos) : PE X (.Call (.Attribute o "get" apos) [e, f] [] cpos) (tGetN X.prog X.w td ty tx) := ⟨fun pins s σ H Q I h => by
  refine wpAny_Call_method m.base m.few m.line PySem.F.plainAttrs_dict PySem.F.slot_dict_get PySem.F.type_dict_get (thn (ho.run pins s σ H _ I h) fun u s1 ⟨x, H1, I1, rx, a, ex, ⟨kvs1, d1⟩, q1⟩ => ?_)
  subst ex
  obtain rfl : u = Value.ref a := rx
  obtain ⟨xs1, _, _, _, dd1⟩ := d1.open I1.hok
  refine ⟨(Heap.DictKeyed.typeIs (s := s1) (knd := nestedKind X.prog X.w) (kvs := pairsH xs1) ⟨xs1, dd1, rfl⟩), ?t2, ?_⟩
  case t2 => intro c ec; cases ec; obtain ⟨o1, es, ep, h1, h2, _⟩ := dd1; exact ⟨o1, h1, h2.2.1⟩
  rw [m.trees]
  refine Calls.callWith_builtin rfl (Calls.evalArgs_plain (Calls.spliced_cons (thn (he.run pins s1 σ H1 _ I1 q1) fun iv s2 ⟨y, H2, I2, ry, q2⟩ =>
    Calls.spliced_cons (thn (hf.run pins s2 σ H2 _ I2 q2) fun fv s3 ⟨z, H3, I3, rz, b, k, kvs, ey, hk, hd, q3⟩ => Calls.spliced_nil ?_))))
  subst ey
  cases (show iv = Value.ref b from ry)
  obtain ⟨xs, zl, hs, rel, dd⟩ := hd.open I3.hok
  refine PySem.getOr_keyed (knd := nestedKind X.prog X.w) (by show X.A.units + 1 + 8 < cLine; omega) (hk.ok I3.hok) hs ⟨xs, dd, rfl⟩ ?_
  refine ⟨_, H3, I3.tok _, ?_, q3⟩
  rw [valueAt_pairsH]
  have r := rel.val k
  revert r
  cases valV kvs k <;> cases (atKey xs k).map (·.2) <;> intro r <;> first | exact rz | exact r.elim | exact r⟩
end
end Pw
namespace Pw
open PySem PySem.Spec PyProof.Rows L2
section
variable {X : Cx}
def tDcNI (P : Program) (w : World) (wi : TI) (g : TG) (tt : TT) (tk tv : TE) (vs : List Nat) : TE := fun σ H Q => wi σ H fun J H1 => ∀ D H2, H1 D = none → Oth [] H1 H2 → DN P w H2 D [] → ∃ W : Nat → Nat → Hp → Prop, (∃ m, W 0 m H2) ∧ ∀ i m H3, W i m H3 →
  (J.stop i H3 ∧ Q (.ref D) H3) ∨ (J.go i H3 ∧ ∃ Nx : Hp → Prop, (∀ H4, Nx H4 → ∃ m', m' < m ∧ W (i + 1) m' H4) ∧ ∀ x H4, J.yld i H3 x H4 → g x (wipe σ vs) H4 fun σ5 H5 => wipe σ5 vs = wipe σ vs ∧ tt σ5 H5 fun b H6 => if b = true then tk σ5 H6 fun y H7 => tv σ5 H7 fun z H8 => rSetN P w (.ref D) y z H8 Nx else Nx H6)
theorem dcNI_core {pins : List (Addr × Obj)} {s : Shared} {σ : L2.St} {H : Hp} {Q : VK} {kx vx tg iter : Expr} {ifs : List Expr} {scope : Scope} {own : List (Str × Nat)} {pos pos' : Pos} {wi : TI} {g : TG} {tt : TT} {tk tv : TE} {use : Option (Value → Sem Unit)} {Qf : Value → Shared → Prop}
    (hu : X.A.units + 20 < cLine) (calm : X.calm = true) (nd : X.N.Nodup) (I : Inv X pins σ H s) (pi : PI X tg iter wi) (ok : BlkOk X.N X.env.scope scope own)
    (hg : ∀ s H C cl fp, PG (X.blk s H scope (compEnvC scope cl C X.env) fp) tg g) (hq : ∀ s H C cl fp, PTs (X.blk s H scope (compEnvC scope cl C X.env) fp) ifs tt) (hk : ∀ s H C cl fp, PE (X.blk s H scope (compEnvC scope cl C X.env) fp) kx tk)
    (hv : ∀ s H C cl fp, PE (X.blk s H scope (compEnvC scope cl C X.env) fp) vx tv) (fold : ∀ x, foldedSetIterable iter X.env x = pure x)
    (h : tDcNI X.prog X.w wi g tt tk tv (own.map (·.2)) σ H Q)
    (post : ∀ D C s' m H', Inv X pins σ H' s' → Q (.ref D) H' → s'.heap.Ns C m → FpOk X pins H' C → compPost (model X.prog X.w) X.A X.xe use Qf (.ref D) C (.ok .next) s') :
    wpAny (model X.prog X.w) X.A (comprehension (.DictComp kx vx [⟨tg, iter, ifs, 0⟩] scope pos) scope X.env pos' newDict false (eval iter X.env) use) Qf X.xe s := by
  have fr : ∀ y ∈ scope.names, y.2 = .free → ∃ c, X.env.cells.lookup y.1 = some c := fun y hy e => (ok.free y hy e).elim (fun k => I.ok.has _ (.inl k)) fun k => I.ok.has _ (.inr k)
  refine wpAny_comprehension_free rfl fold (closure_ok fr) ok.kind (fun y hy e => (ok.uniq y hy).trans (congrArg some e)) (thn (pi.run pins s σ H _ I h) fun xv sA hA => thn hA fun itv sB hB => ?_)
  obtain ⟨it, fp, tn, J, HB, rfl, IB, T, stB, fB, q⟩ := hB
  refine wpAny_newObj_type (newEnv_comp ?_)
  obtain ⟨D, eD⟩ : ∃ D, D = sB.heap.objs.size := ⟨_, rfl⟩
  rw [← eD]
  have noD : HB D = none := IB.hok.fresh (Nat.le_of_eq eD.symm)
  obtain ⟨sC, eC⟩ : ∃ sC : Shared, sC = { sB with heap := sB.heap.push { cls := .type "dict", data := .dict #[] } } := ⟨_, rfl⟩
  obtain ⟨HC, eH⟩ : ∃ HC : Hp, HC = upd HB D (.ext (NDφ X.prog X.w D [])) := ⟨_, rfl⟩
  have big : (D == sysModules) = false := beq_eq_false_iff_ne.mpr (by rw [eD]; exact Ne.symm (Nat.ne_of_lt IB.big))
  have IC : Inv X pins σ HC sC := by
    rw [eC, eH]
    exact IB.laid (t' := sB.toks) (fun _ _ e => Heap.get?_push_of_some _ e) (Nat.le_of_eq eD.symm) (by rw [eD]; exact ND_ok (Heap.DictOfH.new sB.heap))
  have dn0 : DN X.prog X.w HC D [] := by rw [eH]; exact ⟨[], upd_same, Nat.zero_le _, big, .nil⟩
  have oC : Oth [] HB HC := by rw [eH]; exact Oth.new noD
  obtain ⟨W, ⟨m0, w0⟩, turn⟩ := q D HC noD oC dn0
  have keptC : ∀ b o, sB.heap.get? b = some o → sC.heap.get? b = some o := fun b o e => by rw [eC]; exact Heap.get?_push_of_some _ e
  have fC : ∀ b ∈ fp, FpOk X pins HC b ∧ b < sC.heap.objs.size := fun b hb => by
    obtain ⟨o, e, _⟩ := T.obj _ _ stB b hb
    have lt := Heap.lt_size e
    exact ⟨⟨by rw [eH, upd_ne (by rw [eD]; exact Nat.ne_of_lt lt)]; exact (fB b hb).1, (fB b hb).2⟩, Heap.lt_size (keptC b o e)⟩
  have ID := block_start IC ok nd fC
  have gG := hg sC HC sC.heap.objs.size (cellsFrom (sC.heap.objs.size + 1) scope.names (cloFrom X.env.cells scope.names [])) fp
  have gQ := hq sC HC sC.heap.objs.size (cellsFrom (sC.heap.objs.size + 1) scope.names (cloFrom X.env.cells scope.names [])) fp
  have gK := hk sC HC sC.heap.objs.size (cellsFrom (sC.heap.objs.size + 1) scope.names (cloFrom X.env.cells scope.names [])) fp
  have gV := hv sC HC sC.heap.objs.size (cellsFrom (sC.heap.objs.size + 1) scope.names (cloFrom X.env.cells scope.names [])) fp
  have none0 : ∀ b ∈ fp, HC b = none := fun b hb => (fC b hb).1.1
  rw [← eC]
  show codeAny _ _ (.compStart (.DictComp kx vx [⟨tg, iter, ifs, 0⟩] scope pos) 0 (.ref it) (.ref D) (compEnvC scope (cellsFrom (sC.heap.objs.size + 1) scope.names (cloFrom X.env.cells scope.names [])) sC.heap.objs.size X.env)) (compPost (model X.prog X.w) X.A X.xe use Qf (.ref D) sC.heap.objs.size) { sC with heap := pushCells (sC.heap.push { cls := .type "dict", data := .dict #[] }) scope.names }
  obtain ⟨ce, ece⟩ : ∃ ce, ce = compEnvC scope (cellsFrom (sC.heap.objs.size + 1) scope.names (cloFrom X.env.cells scope.names [])) sC.heap.objs.size X.env := ⟨_, rfl⟩
  rw [← ece] at ID gG gQ gK gV ⊢
  have loc : ce.locals = sC.heap.objs.size := by rw [ece]; rfl
  obtain ⟨sD, eSD⟩ : ∃ sD : Shared, sD = { sC with heap := pushCells (sC.heap.push { cls := .type "dict", data := .dict #[] }) scope.names } := ⟨_, rfl⟩
  rw [← eSD] at ID ⊢
  have stD : tn 0 sD.heap := T.keep _ _ _ stB fun b _ o e => by rw [eSD]; exact pushCells_keeps _ _ _ _ (Heap.get?_push_of_some _ (keptC b o e))
  have foot : ∀ {τ : L2.St} {G : Hp} {u : Shared}, Inv (X.blk sC HC scope ce fp) [] τ G u → (∀ b ∈ fp, G b = none) → ∀ b ∈ fp, FpOk (X.blk sC HC scope ce fp) [] G b := fun J nn b hb =>
    ⟨nn b hb, (J.ok.exf b hb).1, J.ok.exfs b hb, .inl hb, fun x c e => (J.ok.exf b hb).2 x c e, fun p hp => by cases (show p ∈ ([] : List (Addr × Obj)) from hp)⟩
  have go : codeAny (model X.prog X.w) X.A (.compLoop (.DictComp kx vx [⟨tg, iter, ifs, 0⟩] scope pos) 0 (.ref it) (.ref D) ce) (compPost (model X.prog X.w) X.A X.xe use Qf (.ref D) sC.heap.objs.size) sD := by
    refine compLoop_anyD (fun n u => ∃ i G, Inv (X.blk sC HC scope ce fp) [] (wipe σ (own.map (·.2))) G u ∧ tn i u.heap ∧ (∀ b ∈ fp, G b = none) ∧ W i n G) (fun n u hI => ?_) m0 ⟨0, HC, ID, stD, none0, w0⟩
    obtain ⟨i, G, IG, stG, nG, wG⟩ := hI
    rcases turn i n G wG with ⟨stop, qq⟩ | ⟨go, Nx, hNx, step⟩
    · refine thnF (T.done (X.blk sC HC scope ce fp) rfl rfl rfl calm i [] u _ G (fun _ _ => False) IG (foot IG nG) stG stop) fun r u2 ⟨hr, I2⟩ => ?_
      subst hr
      have back : Inv X pins σ G u2 := IC.call' (ch := fp) I2.os I2.base I2.hok I2.bare fun b hb => let z := (fC b hb).1.2; ⟨z.2.2.1, z.1, z.2.2.2.1, z.2.2.2.2⟩
      have nl : G ce.locals = none := I2.free
      obtain ⟨m, hn, _⟩ := I2.loc
      have hn : u2.heap.Ns ce.locals m := hn
      rw [loc] at nl hn
      exact post D sC.heap.objs.size u2 m G back qq hn (IC.fpOk (Nat.le_refl _) nl)
    · refine thnF (T.item (X.blk sC HC scope ce fp) rfl rfl rfl calm i [] u _ G (fun _ _ => False) IG (foot IG nG) stG go) fun r u2 ⟨v, hr, h2⟩ => ?_
      subst hr
      refine thnF h2 fun _ u3 ⟨x, G3, I3, r3, y3, st3, n3⟩ => ?_
      refine thnF (gG.run _ u3 _ G3 x v _ (I3.pinned (foot I3 n3) (T.obj _ _ st3)) r3 (step x G3 y3)) fun _ u4 ⟨σ4, G4, I4, w4, q4⟩ => ?_
      refine thnF (gQ.run _ u4 σ4 G4 _ I4 q4) fun bq uq ⟨Gq, Iq, qq⟩ => ?_
      -- how a turn ends
      have fin : ∀ {s' : Shared} {H' : Hp}, Inv (X.blk sC HC scope ce fp) ([] ++ pinsAt fp u3.heap) σ4 H' s' → Nx H' → ∃ m, m < n ∧ ∃ i H', Inv (X.blk sC HC scope ce fp) [] (wipe σ (own.map (·.2))) H' s' ∧ tn i s'.heap ∧ (∀ b ∈ fp, H' b = none) ∧ W i m H' := fun {u7 G7} I7 nx => by
        obtain ⟨m', lt, w7⟩ := hNx G7 nx
        have pinned : ∀ b ∈ fp, ∀ o, u3.heap.get? b = some o → u7.heap.get? b = some o ∧ G7 b = none := fun b hb o e =>
          let z := I7.pin (b, o) (List.mem_append_right _ (List.mem_append_right _ (mem_pinsAt hb e)))
          ⟨z.1, z.2.1⟩
        refine ⟨m', lt, i + 1, G7, (I7.unpinned (pins := [])).weak (by rw [← w4, wipe_length]) (fun j v' e => by rw [← w4] at e; exact (wipe_some e).1), T.keep _ _ _ st3 fun b hb o e => (pinned b hb o e).1, fun b hb => ?_, w7⟩
        obtain ⟨o, e, _⟩ := T.obj _ _ st3 b hb
        exact (pinned b hb o e).2
      cases bq with
      | false =>
        simp only [Bool.false_eq_true, if_false] at qq ⊢
        exact fin Iq qq
      | true =>
        simp only [if_true] at qq ⊢
        refine thnF (gK.run _ uq σ4 Gq _ Iq qq) fun ky u5 ⟨y5, G5, I5, r5, q5⟩ => ?_
        refine thnF (gV.run _ u5 σ4 G5 _ I5 q5) fun vy u6 ⟨y6, G6, I6, r6, q6⟩ => ?_
        exact dictSetN (X := X.blk sC HC scope ce fp) hu I6 r5 r6 q6 fun u7 G7 I7 nx => fin I7 nx
  exact codeAny_compStart_dict go (T.self X.A 0 _ _ _ stD go)
theorem pe_dcNI {kx vx tg iter : Expr} {ifs : List Expr} {scope : Scope} {own : List (Str × Nat)} {pos : Pos} {wi : TI} {g : TG} {tt : TT} {tk tv : TE} (hu : X.A.units + 20 < cLine) (calm : X.calm = true) (nd : X.N.Nodup) (pi : PI X tg iter wi) (ok : BlkOk X.N X.env.scope scope own)
    (hg : ∀ s H C cl fp, PG (X.blk s H scope (compEnvC scope cl C X.env) fp) tg g) (hq : ∀ s H C cl fp, PTs (X.blk s H scope (compEnvC scope cl C X.env) fp) ifs tt) (hk : ∀ s H C cl fp, PE (X.blk s H scope (compEnvC scope cl C X.env) fp) kx tk)
    (hv : ∀ s H C cl fp, PE (X.blk s H scope (compEnvC scope cl C X.env) fp) vx tv) (fold : ∀ x, foldedSetIterable iter X.env x = pure x := by intro _; rfl) :
    PE X (.DictComp kx vx [⟨tg, iter, ifs, 0⟩] scope pos) (tDcNI X.prog X.w wi g tt tk tv (own.map (·.2))) := ⟨fun pins s σ H Q I h => by
  rw [arm_eval_DictComp]
  exact dcNI_core hu calm nd I pi ok hg hq hk hv fold h fun D C s' m H' I' q ns fo => ⟨m, ns, fun h'' sb => ⟨.ref D, H', I'.turned (t' := s'.toks) (fun b o hb e => (sb.2 b hb).trans e) fo.1 fo.2.1 fo.2.2.2.1 fo.2.2.2.2.1 fo.2.2.2.2.2, rfl, q⟩⟩⟩
theorem dcNI_tup {P : Program} {w : World} {K : PySem.W.Frag} {a : Addr} {xs : List V} {g : TG} {tt : TT} {tk tv : TE} {vs : List Nat} {σ : L2.St} {H2 : Hp} {D : Addr} {Qd : Hp → Prop} (Pv : Nat → Hp → Prop) (h0 : Pv 0 H2) (stay : ∀ i H, i ≤ xs.length → Pv i H → SqT K H a xs)
    (one : ∀ i x H, xs[i]? = some x → Pv i H → g x (wipe σ vs) H fun σ5 H5 => wipe σ5 vs = wipe σ vs ∧ tt σ5 H5 fun b H6 => if b = true then tk σ5 H6 fun y H7 => tv σ5 H7 fun z H8 => rSetN P w (.ref D) y z H8 (Pv (i + 1)) else Pv (i + 1) H6) (end' : ∀ H, Pv xs.length H → Qd H) :
    ∃ W : Nat → Nat → Hp → Prop, (∃ m, W 0 m H2) ∧ ∀ i m H3, W i m H3 → ((Itt K a).stop i H3 ∧ Qd H3) ∨ ((Itt K a).go i H3 ∧ ∃ Nx : Hp → Prop, (∀ H4, Nx H4 → ∃ m', m' < m ∧ W (i + 1) m' H4) ∧ ∀ x H4, (Itt K a).yld i H3 x H4 → g x (wipe σ vs) H4 fun σ5 H5 => wipe σ5 vs = wipe σ vs ∧ tt σ5 H5 fun b H6 => if b = true then tk σ5 H6 fun y H7 => tv σ5 H7 fun z H8 => rSetN P w (.ref D) y z H8 Nx else Nx H6) := by
  refine ⟨fun i m H => m + i = xs.length ∧ Pv i H, ⟨xs.length, rfl, h0⟩, fun i m H3 hW => ?_⟩
  obtain ⟨em, p⟩ := hW
  have sq := stay i H3 (by omega) p
  rcases Nat.lt_or_ge i xs.length with lt | ge
  · refine .inr ⟨⟨xs, xs[i], sq, List.getElem?_eq_getElem lt⟩, Pv (i + 1), fun H4 p' => ⟨m - 1, by omega, by omega, p'⟩, fun x H4 y => ?_⟩
    obtain ⟨e, y⟩ := y
    cases e
    exact one i x H3 (y xs sq) p
  · obtain rfl : i = xs.length := by omega
    exact .inl ⟨⟨xs, sq, Nat.le_refl _⟩, end' H3 p⟩
/-- x in d, in a block -/
theorem op_inN2 {P : Program} {w : World} (hP : X.prog = P) (hw : X.w = w) (hu : X.A.units + 20 < cLine) : OpR X (compareOp .In) (rInN P w) := by subst hP hw; exact op_inN hu
def rNotInN (P : Program) (w : World) : R2 := fun x y H Q => ∃ b a k kvs, x = .ref b ∧ y = .ref a ∧ NKey H k b ∧ DN P w H a kvs ∧ Q (.bl (!(valV kvs k).isSome)) H
theorem op_notInN (hu : X.A.units + 20 < cLine) : OpR X (compareOp .NotIn) (rNotInN X.prog X.w) := by
  intro pins s σ H x y v u Q I r1 r2 h
  obtain ⟨b, a, k, kvs, rfl, rfl, hk, hd, q⟩ := h
  cases (show v = Value.ref b from r1)
  cases (show u = Value.ref a from r2)
  obtain ⟨xs, z, hs, rel, dd⟩ := hd.open I.hok
  refine PySem.notIn_keyed (knd := nestedKind X.prog X.w) (by show X.A.units + 1 + 8 < cLine; omega) (hk.ok I.hok) hs ⟨xs, dd, rfl⟩ ?_
  have e := (rel.val k).isSome_eq
  rw [valueAt_pairsH, ← e]
  exact ⟨.bl _, H, I.tok _, rfl, q⟩
/-- d[x] -/
def tDGetN (P : Program) (w : World) (td ty : TE) : TE := fun σ H Q => td σ H fun x H1 => ty σ H1 fun y H2 => rIxN P w x y H2 Q
theorem pe_dN {P : Program} {w : World} {o i : Expr} {pos : Pos} {td ty : TE} (hP : X.prog = P) (hw : X.w = w) (hu : X.A.units + 20 < cLine) (ho : PE X o td) (hi : PE X i ty) (hs : NoSl i) : PE X (.Subscript o i pos) (tDGetN P w td ty) := by
  subst hP hw
  refine ⟨fun pins s σ H Q I h => ?_⟩
  refine subD_of PySem.F.slot_dict_getitem.lookup hs (thn (ho.run pins s σ H _ I h) fun u s1 ⟨x, H1, I1, rx, q1⟩ => thn (hi.run pins s1 σ H1 _ I1 q1) fun iv s2 ⟨y, H2, I2, ry, b, a, k, kvs, z, ey, ex, hk, hd, hv, q2⟩ => ?_)
  subst ex ey
  obtain rfl : u = Value.ref a := rx
  obtain rfl : iv = Value.ref b := ry
  obtain ⟨xs, _, _, _, dd⟩ := hd.open I2.hok
  exact ⟨Heap.DictKeyed.typeIs (s := s2) (knd := nestedKind X.prog X.w) (kvs := pairsH xs) ⟨xs, dd, rfl⟩, n_getItem hu I2 hk hd hv fun w' s3 I3 rw' => ⟨z, H2, I3, rw', q2⟩⟩
end
end Pw
namespace Pw
open PySem PySem.Spec PyProof.Rows L2
/-- a key -/
def lfV : Leaf → V
  | .none => .non
  | .num i => .int i
  | .text x => .str x
theorem lf_is {P : Program} {w : World} {k : Leaf} {u : Value} (r : RelV (lfV k) u) : (leafKind P w).is k u = true := by
  cases k with
  | none => obtain rfl : u = Value.none := r; rfl
  | num i => obtain ⟨t, rfl⟩ := (show ∃ t, u = Value.int i t from r); exact decide_eq_true rfl
  | text x => obtain ⟨t, rfl⟩ := (show ∃ t, u = Value.str x t from r); show (x == x) = true; simp
theorem lfV_inj {a b : Leaf} (h : lfV a = lfV b) : a = b := by
  cases a <;> cases b <;> simp_all [lfV]
def LDφ (P : Program) (w : World) (a : Addr) (vs : List (Leaf × Value)) (h : Heap) : Prop := h.DictOf (leafKind P w) a vs
def DL (P : Program) (w : World) (H : Hp) (a : Addr) (kvs : List (Leaf × V)) : Prop :=
  ∃ vs, H a = some (.ext (LDφ P w a vs)) ∧ kvs.length ≤ sizeLine ∧ (a == sysModules) = false ∧ L2.KV kvs vs
section
variable {P : Program} {w : World} {H H' : Hp} {h : Heap} {a b : Addr} {S : List Addr} {kvs : List (Leaf × V)} {vs : List (Leaf × Value)}
theorem DL.oth (x : DL P w H a kvs) (o : Oth S H H') (n : a ∉ S) : DL P w H' a kvs := by
  obtain ⟨vs, e, r⟩ := x
  exact ⟨vs, o.keep a _ n e, r⟩
theorem DL.ne {b : Addr} (x : DL P w H a kvs) (n : H b = none) : a ≠ b := by
  obtain ⟨vs, e, _⟩ := x
  exact ne_of_none e n
theorem DL.is (x : DL P w H a kvs) : ∃ φ, H a = some (.ext φ) := by
  obtain ⟨vs, e, _⟩ := x
  exact ⟨_, e⟩
theorem DL.open (ok : HOk P w H h) (x : DL P w H a kvs) : ∃ vs, kvs.length ≤ sizeLine ∧ (a == sysModules) = false ∧ L2.KV kvs vs ∧ h.DictOf (leafKind P w) a vs := by
  obtain ⟨vs, e, z, y, r⟩ := x
  obtain ⟨k, _⟩ := (show ObjOk P w H h a (.ext (LDφ P w a vs)) from ok a _ e)
  exact ⟨vs, z, y, r, k⟩
theorem LD_ok (hm : h.DictOf (leafKind P w) a vs) : ObjOk P w H h a (.ext (LDφ P w a vs)) := by
  obtain ⟨o, es, ep, h1, r⟩ := hm
  refine ⟨⟨o, es, ep, h1, r⟩, ⟨o, h1⟩, fun g1 g2 hg k => ?_⟩
  obtain ⟨o, es, ep, h1, r⟩ := hg
  exact ⟨o, es, ep, k _ h1, r⟩
end
section
variable {X : Cx} {pos : Pos}
/-- {} -/
def tDNewL (P : Program) (w : World) : TE := fun _ H Q => ∀ p H', H p = none → Oth [] H H' → H' p ≠ none → DL P w H' p [] → Q (.ref p) H'
theorem pe_dnewL : PE X (.Dict [] [] pos) (tDNewL X.prog X.w) := ⟨fun pins s σ H Q I h => by
  have hn := I.hok.fresh (Nat.le_refl s.heap.objs.size)
  refine wpAny_Dict_empty ⟨.ref s.heap.objs.size, _, I.laid (a := s.heap.objs.size) (o := .ext (LDφ X.prog X.w s.heap.objs.size [])) (t' := s.toks) (fun _ _ q => Heap.get?_push_of_some _ q) (Nat.le_refl _) (LD_ok (Heap.DictOf.new (knd := leafKind X.prog X.w) s.heap)), rfl, h _ _ hn (Oth.new hn) (by rw [upd_same]; exact fun z => nomatch z) ?_⟩
  exact ⟨[], upd_same, Nat.zero_le _, beq_eq_false_iff_ne.mpr (Ne.symm (Nat.ne_of_lt I.big)), .nil⟩⟩
/-- x in d, x not in d -/
def rInL (P : Program) (w : World) (neg : Bool) : R2 := fun x y H Q => ∃ a k kvs, x = lfV k ∧ y = .ref a ∧ DL P w H a kvs ∧ Q (.bl (if neg then !(valV kvs k).isSome else (valV kvs k).isSome)) H
theorem op_inL {P : Program} {w : World} (hP : X.prog = P) (hw : X.w = w) : OpR X (compareOp .In) (rInL P w false) := by
  subst hP hw
  intro pins s σ H x y v u Q I r1 r2 h
  obtain ⟨a, k, kvs, rfl, rfl, hd, q⟩ := h
  cases (show u = Value.ref a from r2)
  obtain ⟨vs, z, hs, rel, dd⟩ := hd.open I.hok
  refine wpAny_in_of (lf_is r1) hs dd.mapOf ?_
  rw [← (rel.val k).isSome_eq]
  exact ⟨.bl _, H, I.tok _, rfl, q⟩
theorem op_notInL {P : Program} {w : World} (hP : X.prog = P) (hw : X.w = w) : OpR X (compareOp .NotIn) (rInL P w true) := by
  subst hP hw
  intro pins s σ H x y v u Q I r1 r2 h
  obtain ⟨a, k, kvs, rfl, rfl, hd, q⟩ := h
  cases (show u = Value.ref a from r2)
  obtain ⟨vs, z, hs, rel, dd⟩ := hd.open I.hok
  refine wpAny_notIn_of (lf_is r1) hs dd.mapOf ?_
  rw [← (rel.val k).isSome_eq]
  exact ⟨.bl _, H, I.tok _, rfl, q⟩
/-- d[x] -/
def rIxD (P : Program) (w : World) : R2 := fun y x H Q => ∃ a k kvs v, x = lfV k ∧ y = .ref a ∧ DL P w H a kvs ∧ valV kvs k = some v ∧ Q v H
theorem l_getItem {pins : List (Addr × Obj)} {σ : L2.St} {H : Hp} {s : Shared} {A : Around} {E : Value → Shared → Prop} {a : Addr} {kvs : List (Leaf × V)} {k : Leaf} {v : V} {u : Value} {Q : Value → Shared → Prop} (I : Inv X pins σ H s) (r : RelV (lfV k) u) (hd : DL X.prog X.w H a kvs) (hv : valV kvs k = some v)
    (h : ∀ w' s', Inv X pins σ H s' → RelV v w' → Q w' s') : wpAny (model X.prog X.w) A (getItem (.ref a) u) Q E s := by
  obtain ⟨vs, z, hs, rel, dd⟩ := hd.open I.hok
  obtain ⟨w', hw, rw'⟩ := RelO.some_of (v := v) (o := valueAt vs k) (by rw [← hv]; exact rel.val k)
  exact wpAny_getItem_of (lf_is r) dd.mapOf hw (h w' _ (I.tok _) rw')
def tDGetL (P : Program) (w : World) (td ty : TE) : TE := fun σ H Q => td σ H fun x H1 => ty σ H1 fun y H2 => rIxD P w x y H2 Q
theorem pe_dL {P : Program} {w : World} {o i : Expr} {td ty : TE} (hP : X.prog = P) (hw : X.w = w) (ho : PE X o td) (hi : PE X i ty) (hs : NoSl i) : PE X (.Subscript o i pos) (tDGetL P w td ty) := by
  subst hP hw
  refine ⟨fun pins s σ H Q I h => ?_⟩
  refine subD_of PySem.F.slot_dict_getitem.lookup hs (thn (ho.run pins s σ H _ I h) fun u s1 ⟨x, H1, I1, rx, q1⟩ => thn (hi.run pins s1 σ H1 _ I1 q1) fun iv s2 ⟨y, H2, I2, ry, a, k, kvs, z, ey, ex, hd, hv, q2⟩ => ?_)
  subst ex ey
  obtain rfl : u = Value.ref a := rx
  obtain ⟨vs, _, _, _, dd⟩ := hd.open I2.hok
  exact ⟨dd.typeIs, l_getItem I2 ry hd hv fun w' s3 I3 rw' => ⟨z, H2, I3, rw', q2⟩⟩
/-- d[x] = v -/
def rSetL (P : Program) (w : World) : V → V → V → Hp → (Hp → Prop) → Prop := fun o i v H Q => ∃ a k kvs, o = .ref a ∧ i = lfV k ∧ DL P w H a kvs ∧ kvs.length < sizeLine ∧
  ∀ H', Oth [a] H H' → DL P w H' a (putK kvs k v) → Q H'
theorem oth_ext {H : Hp} {a : Addr} {φ ψ : Heap → Prop} (ea : H a = some (.ext φ)) : Oth [a] H (upd H a (.ext ψ)) :=
  ⟨fun c o' n e => by rw [upd_ne (fun z => n (by rw [z]; simp))]; exact e, fun c ys e => by rw [upd_ne (ne_of e ea (fun z => nomatch z))]; exact e⟩
theorem set_leaf : PSet X (rSetL X.prog X.w) := by
  intro pins s σ H o i v ov iv u Q I ro ri rv h
  obtain ⟨a, k, kvs, rfl, rfl, hd, hl, q⟩ := h
  cases (show ov = Value.ref a from ro)
  obtain ⟨φ, ea⟩ := hd.is
  obtain ⟨vs, z, hs, rel, dd⟩ := hd.open I.hok
  have hz : vs.length ≤ sizeLine := by rw [← rel.length]; exact z
  refine wpAny_setItem_pairs (hsz := hz) (lf_is ri) dd fun h' dd' hs' => ?_
  have he : ∃ q, h'.get? a = some q := let ⟨q, _, _, hq, _⟩ := dd'; ⟨q, hq⟩
  exact ⟨_, d_write I (by rw [ea]; exact True.intro) hs' he (LD_ok dd'), q _ (oth_ext ea) ⟨_, upd_same, by have := length_putK kvs k v; omega, hs, rel.put k rv⟩⟩
theorem dictSetL {pins : List (Addr × Obj)} {σ : L2.St} {H : Hp} {s : Shared} {E : Value → Shared → Prop} {a : Addr} {y z : V} {u r : Value} {Nx : Hp → Prop} {Q : Unit → Shared → Prop} (hu : X.A.units + 20 < cLine) (I : Inv X pins σ H s) (ry : RelV y u) (rz : RelV z r)
    (h : rSetL X.prog X.w (.ref a) y z H Nx) (q : ∀ s' H', Inv X pins σ H' s' → Nx H' → Q () s') : wpAny (model X.prog X.w) X.A (dictSet a u r) Q E s := by
  obtain ⟨_, k, kvs, e, rfl, hd, hl, nx⟩ := h
  cases e
  obtain ⟨φ, ea⟩ := hd.is
  obtain ⟨vs, zl, hs, rel, dd⟩ := hd.open I.hok
  have hx : vs.length ≤ sizeLine := by rw [← rel.length]; exact zl
  refine wpAny_dictSet_pairs (hsz := hx) (lf_is ry) dd fun h' dd' hs' => ?_
  have he : ∃ o, h'.get? a = some o := let ⟨o, _, _, ho, _⟩ := dd'; ⟨o, ho⟩
  exact q _ _ (d_write I (by rw [ea]; exact True.intro) hs' he (LD_ok dd')) (nx _ (oth_ext ea) ⟨_, upd_same, by have := length_putK kvs k z; omega, hs, rel.put k rz⟩)
/-- del d[x] -/
def sDDelL (P : Program) (w : World) (td ty : TE) : TS := fun D σ H => td σ H fun x H1 => ty σ H1 fun y H2 => ∃ a kvs k, x = .ref a ∧ DL P w H2 a kvs ∧ y = lfV k ∧ (valV kvs k).isSome = true ∧ ∀ H3, Oth [a] H2 H3 → DL P w H3 a (dropK kvs k) → D.nx σ H3
theorem ps_ddelL {o i : Expr} {tpos : Pos} {td ty : TE} (ho : PE X o td) (hi : PE X i ty) : PS X (.Delete [.Subscript o i tpos] pos) (sDDelL X.prog X.w td ty) := by
  refine ⟨fun pins s σ H D I h => ?_⟩
  refine wpAny_Delete (wpAny_deleteEach_cons (wpAny_delete_Subscript (thn (ho.run pins s σ H _ I h) fun u s1 ⟨x, H1, I1, rx, q1⟩ => thn (hi.run pins s1 σ H1 _ I1 q1) fun iv s2 ⟨y, H2, I2, ry, a, kvs, k, ex, hd, ey, l, q2⟩ => ?_)))
  subst ex ey
  obtain rfl : u = Value.ref a := rx
  obtain ⟨φ, ea⟩ := hd.is
  obtain ⟨vs, z, hs, rel, dd⟩ := hd.open I2.hok
  refine wpAny_delItem_slot dd.typeIs (by decide) PySem.F.slot_dict_delitem
    (call_meetsIn PySem.F.slot_dict_delitem dd.typeIs PySem.F.entry_dict_delitem (PySem.F.args_dict_delitem_2 _ _) (meets_dict_delitem_pairs (leafKind X.prog X.w) a (lf_is ry)) ⟨vs, dd, by rw [← rel.length]; exact z, by rw [← (rel.val k).isSome_eq]; exact l, fun h' dd' hs' => wpAny_deleteEach_nil ?_⟩)
  have he : ∃ q, h'.get? a = some q := let ⟨q, _, _, hq, _⟩ := dd'; ⟨q, hq⟩
  exact ⟨σ, _, d_write I2 (by rw [ea]; exact True.intro) hs' he (LD_ok dd'), q2 _ (oth_ext ea) ⟨_, upd_same, Nat.le_trans (dropK_le kvs k) z, hs, rel.drop k⟩⟩
/-- d.get(key, other) -/
def tGetL (P : Program) (w : World) (td ty tx : TE) : TE := fun σ H Q => td σ H fun x H1 => ∃ a, x = .ref a ∧ (∃ kvs, DL P w H1 a kvs) ∧ ty σ H1 fun y H2 => tx σ H2 fun z H3 => ∃ k kvs, y = lfV k ∧ DL P w H3 a kvs ∧ Q ((valV kvs k).getD z) H3
theorem pe_getL {P : Program} {w : World} {o e f : Expr} {apos cpos : Pos} {td ty tx : TE} (hP : X.prog = P) (hw : X.w = w) (ho : PE X o td) (he : PE X e ty) (hf : PE X f tx) (m : M2 X o "get" apos e f cpos) : PE X (.Call (.Attribute o "get" apos) [e, f] [] cpos) (tGetL P w td ty tx) := by
  subst hP hw
  refine ⟨fun pins s σ H Q I h => ?_⟩
  refine wpAny_Call_method m.base m.few m.line PySem.F.plainAttrs_dict PySem.F.slot_dict_get PySem.F.type_dict_get (thn (ho.run pins s σ H _ I h) fun u s1 ⟨x, H1, I1, rx, a, ex, ⟨kvs1, d1⟩, q1⟩ => ?_)
  subst ex
  obtain rfl : u = Value.ref a := rx
  obtain ⟨vs1, _, _, _, dd1⟩ := d1.open I1.hok
  refine ⟨dd1.typeIs, ?t2, ?_⟩
  case t2 => intro c ec; cases ec; obtain ⟨o1, es, ep, h1, h2, _⟩ := dd1; exact ⟨o1, h1, h2.2.1⟩
  rw [m.trees]
  refine Calls.callWith_builtin rfl (Calls.evalArgs_plain (Calls.spliced_cons (thn (he.run pins s1 σ H1 _ I1 q1) fun iv s2 ⟨y, H2, I2, ry, q2⟩ =>
    Calls.spliced_cons (thn (hf.run pins s2 σ H2 _ I2 q2) fun fv s3 ⟨z, H3, I3, rz, k, kvs, ey, hd, q3⟩ => Calls.spliced_nil ?_))))
  subst ey
  obtain ⟨vs, zl, hs, rel, dd⟩ := hd.open I3.hok
  refine call_meetsIn PySem.F.slot_dict_get dd.typeIs PySem.F.entry_dict_get (PySem.F.args_dict_get_3 _ _ _) (meets_dict_get_default (leafKind X.prog X.w) a (lf_is ry) hs _) ⟨_, dd.mapOf, ?_⟩
  exact ⟨_, H3, I3.tok _, (rel.val k).getD rz, q3⟩
end
section
variable {X : Cx}
def tDcLI (P : Program) (w : World) (wi : TI) (g : TG) (tt : TT) (tk tv : TE) (vs : List Nat) : TE := fun σ H Q => wi σ H fun J H1 => ∀ D H2, H1 D = none → Oth [] H1 H2 → DL P w H2 D [] → ∃ W : Nat → Nat → Hp → Prop, (∃ m, W 0 m H2) ∧ ∀ i m H3, W i m H3 →
  (J.stop i H3 ∧ Q (.ref D) H3) ∨ (J.go i H3 ∧ ∃ Nx : Hp → Prop, (∀ H4, Nx H4 → ∃ m', m' < m ∧ W (i + 1) m' H4) ∧ ∀ x H4, J.yld i H3 x H4 → g x (wipe σ vs) H4 fun σ5 H5 => wipe σ5 vs = wipe σ vs ∧ tt σ5 H5 fun b H6 => if b = true then tk σ5 H6 fun y H7 => tv σ5 H7 fun z H8 => rSetL P w (.ref D) y z H8 Nx else Nx H6)
theorem dcLI_core {pins : List (Addr × Obj)} {s : Shared} {σ : L2.St} {H : Hp} {Q : VK} {kx vx tg iter : Expr} {ifs : List Expr} {scope : Scope} {own : List (Str × Nat)} {pos pos' : Pos} {wi : TI} {g : TG} {tt : TT} {tk tv : TE} {use : Option (Value → Sem Unit)} {Qf : Value → Shared → Prop}
    (hu : X.A.units + 20 < cLine) (calm : X.calm = true) (nd : X.N.Nodup) (I : Inv X pins σ H s) (pi : PI X tg iter wi) (ok : BlkOk X.N X.env.scope scope own)
    (hg : ∀ s H C cl fp, PG (X.blk s H scope (compEnvC scope cl C X.env) fp) tg g) (hq : ∀ s H C cl fp, PTs (X.blk s H scope (compEnvC scope cl C X.env) fp) ifs tt) (hk : ∀ s H C cl fp, PE (X.blk s H scope (compEnvC scope cl C X.env) fp) kx tk)
    (hv : ∀ s H C cl fp, PE (X.blk s H scope (compEnvC scope cl C X.env) fp) vx tv) (fold : ∀ x, foldedSetIterable iter X.env x = pure x)
    (h : tDcLI X.prog X.w wi g tt tk tv (own.map (·.2)) σ H Q)
    (post : ∀ D C s' m H', Inv X pins σ H' s' → Q (.ref D) H' → s'.heap.Ns C m → FpOk X pins H' C → compPost (model X.prog X.w) X.A X.xe use Qf (.ref D) C (.ok .next) s') :
    wpAny (model X.prog X.w) X.A (comprehension (.DictComp kx vx [⟨tg, iter, ifs, 0⟩] scope pos) scope X.env pos' newDict false (eval iter X.env) use) Qf X.xe s := by
  have fr : ∀ y ∈ scope.names, y.2 = .free → ∃ c, X.env.cells.lookup y.1 = some c := fun y hy e => (ok.free y hy e).elim (fun k => I.ok.has _ (.inl k)) fun k => I.ok.has _ (.inr k)
  refine wpAny_comprehension_free rfl fold (closure_ok fr) ok.kind (fun y hy e => (ok.uniq y hy).trans (congrArg some e)) (thn (pi.run pins s σ H _ I h) fun xv sA hA => thn hA fun itv sB hB => ?_)
  obtain ⟨it, fp, tn, J, HB, rfl, IB, T, stB, fB, q⟩ := hB
  refine wpAny_newObj_type (newEnv_comp ?_)
  obtain ⟨D, eD⟩ : ∃ D, D = sB.heap.objs.size := ⟨_, rfl⟩
  rw [← eD]
  have noD : HB D = none := IB.hok.fresh (Nat.le_of_eq eD.symm)
  obtain ⟨sC, eC⟩ : ∃ sC : Shared, sC = { sB with heap := sB.heap.push { cls := .type "dict", data := .dict #[] } } := ⟨_, rfl⟩
  obtain ⟨HC, eH⟩ : ∃ HC : Hp, HC = upd HB D (.ext (LDφ X.prog X.w D [])) := ⟨_, rfl⟩
  have big : (D == sysModules) = false := beq_eq_false_iff_ne.mpr (by rw [eD]; exact Ne.symm (Nat.ne_of_lt IB.big))
  have IC : Inv X pins σ HC sC := by
    rw [eC, eH]
    exact IB.laid (t' := sB.toks) (fun _ _ e => Heap.get?_push_of_some _ e) (Nat.le_of_eq eD.symm) (by rw [eD]; exact LD_ok (Heap.DictOf.new (knd := leafKind X.prog X.w) sB.heap))
  have dn0 : DL X.prog X.w HC D [] := by rw [eH]; exact ⟨[], upd_same, Nat.zero_le _, big, .nil⟩
  have oC : Oth [] HB HC := by rw [eH]; exact Oth.new noD
  obtain ⟨W, ⟨m0, w0⟩, turn⟩ := q D HC noD oC dn0
  have keptC : ∀ b o, sB.heap.get? b = some o → sC.heap.get? b = some o := fun b o e => by rw [eC]; exact Heap.get?_push_of_some _ e
  have fC : ∀ b ∈ fp, FpOk X pins HC b ∧ b < sC.heap.objs.size := fun b hb => by
    obtain ⟨o, e, _⟩ := T.obj _ _ stB b hb
    have lt := Heap.lt_size e
    exact ⟨⟨by rw [eH, upd_ne (by rw [eD]; exact Nat.ne_of_lt lt)]; exact (fB b hb).1, (fB b hb).2⟩, Heap.lt_size (keptC b o e)⟩
  have ID := block_start IC ok nd fC
  have gG := hg sC HC sC.heap.objs.size (cellsFrom (sC.heap.objs.size + 1) scope.names (cloFrom X.env.cells scope.names [])) fp
  have gQ := hq sC HC sC.heap.objs.size (cellsFrom (sC.heap.objs.size + 1) scope.names (cloFrom X.env.cells scope.names [])) fp
  have gK := hk sC HC sC.heap.objs.size (cellsFrom (sC.heap.objs.size + 1) scope.names (cloFrom X.env.cells scope.names [])) fp
  have gV := hv sC HC sC.heap.objs.size (cellsFrom (sC.heap.objs.size + 1) scope.names (cloFrom X.env.cells scope.names [])) fp
  have none0 : ∀ b ∈ fp, HC b = none := fun b hb => (fC b hb).1.1
  rw [← eC]
  show codeAny _ _ (.compStart (.DictComp kx vx [⟨tg, iter, ifs, 0⟩] scope pos) 0 (.ref it) (.ref D) (compEnvC scope (cellsFrom (sC.heap.objs.size + 1) scope.names (cloFrom X.env.cells scope.names [])) sC.heap.objs.size X.env)) (compPost (model X.prog X.w) X.A X.xe use Qf (.ref D) sC.heap.objs.size) { sC with heap := pushCells (sC.heap.push { cls := .type "dict", data := .dict #[] }) scope.names }
  obtain ⟨ce, ece⟩ : ∃ ce, ce = compEnvC scope (cellsFrom (sC.heap.objs.size + 1) scope.names (cloFrom X.env.cells scope.names [])) sC.heap.objs.size X.env := ⟨_, rfl⟩
  rw [← ece] at ID gG gQ gK gV ⊢
  have loc : ce.locals = sC.heap.objs.size := by rw [ece]; rfl
  obtain ⟨sD, eSD⟩ : ∃ sD : Shared, sD = { sC with heap := pushCells (sC.heap.push { cls := .type "dict", data := .dict #[] }) scope.names } := ⟨_, rfl⟩
  rw [← eSD] at ID ⊢
  have stD : tn 0 sD.heap := T.keep _ _ _ stB fun b _ o e => by rw [eSD]; exact pushCells_keeps _ _ _ _ (Heap.get?_push_of_some _ (keptC b o e))
  have foot : ∀ {τ : L2.St} {G : Hp} {u : Shared}, Inv (X.blk sC HC scope ce fp) [] τ G u → (∀ b ∈ fp, G b = none) → ∀ b ∈ fp, FpOk (X.blk sC HC scope ce fp) [] G b := fun J nn b hb =>
    ⟨nn b hb, (J.ok.exf b hb).1, J.ok.exfs b hb, .inl hb, fun x c e => (J.ok.exf b hb).2 x c e, fun p hp => by cases (show p ∈ ([] : List (Addr × Obj)) from hp)⟩
  have go : codeAny (model X.prog X.w) X.A (.compLoop (.DictComp kx vx [⟨tg, iter, ifs, 0⟩] scope pos) 0 (.ref it) (.ref D) ce) (compPost (model X.prog X.w) X.A X.xe use Qf (.ref D) sC.heap.objs.size) sD := by
    refine compLoop_anyD (fun n u => ∃ i G, Inv (X.blk sC HC scope ce fp) [] (wipe σ (own.map (·.2))) G u ∧ tn i u.heap ∧ (∀ b ∈ fp, G b = none) ∧ W i n G) (fun n u hI => ?_) m0 ⟨0, HC, ID, stD, none0, w0⟩
    obtain ⟨i, G, IG, stG, nG, wG⟩ := hI
    rcases turn i n G wG with ⟨stop, qq⟩ | ⟨go, Nx, hNx, step⟩
    · refine thnF (T.done (X.blk sC HC scope ce fp) rfl rfl rfl calm i [] u _ G (fun _ _ => False) IG (foot IG nG) stG stop) fun r u2 ⟨hr, I2⟩ => ?_
      subst hr
      have back : Inv X pins σ G u2 := IC.call' (ch := fp) I2.os I2.base I2.hok I2.bare fun b hb => let z := (fC b hb).1.2; ⟨z.2.2.1, z.1, z.2.2.2.1, z.2.2.2.2⟩
      have nl : G ce.locals = none := I2.free
      obtain ⟨m, hn, _⟩ := I2.loc
      have hn : u2.heap.Ns ce.locals m := hn
      rw [loc] at nl hn
      exact post D sC.heap.objs.size u2 m G back qq hn (IC.fpOk (Nat.le_refl _) nl)
    · refine thnF (T.item (X.blk sC HC scope ce fp) rfl rfl rfl calm i [] u _ G (fun _ _ => False) IG (foot IG nG) stG go) fun r u2 ⟨v, hr, h2⟩ => ?_
      subst hr
      refine thnF h2 fun _ u3 ⟨x, G3, I3, r3, y3, st3, n3⟩ => ?_
      refine thnF (gG.run _ u3 _ G3 x v _ (I3.pinned (foot I3 n3) (T.obj _ _ st3)) r3 (step x G3 y3)) fun _ u4 ⟨σ4, G4, I4, w4, q4⟩ => ?_
      refine thnF (gQ.run _ u4 σ4 G4 _ I4 q4) fun bq uq ⟨Gq, Iq, qq⟩ => ?_
      -- how a turn ends
      have fin : ∀ {s' : Shared} {H' : Hp}, Inv (X.blk sC HC scope ce fp) ([] ++ pinsAt fp u3.heap) σ4 H' s' → Nx H' → ∃ m, m < n ∧ ∃ i H', Inv (X.blk sC HC scope ce fp) [] (wipe σ (own.map (·.2))) H' s' ∧ tn i s'.heap ∧ (∀ b ∈ fp, H' b = none) ∧ W i m H' := fun {u7 G7} I7 nx => by
        obtain ⟨m', lt, w7⟩ := hNx G7 nx
        have pinned : ∀ b ∈ fp, ∀ o, u3.heap.get? b = some o → u7.heap.get? b = some o ∧ G7 b = none := fun b hb o e =>
          let z := I7.pin (b, o) (List.mem_append_right _ (List.mem_append_right _ (mem_pinsAt hb e)))
          ⟨z.1, z.2.1⟩
        refine ⟨m', lt, i + 1, G7, (I7.unpinned (pins := [])).weak (by rw [← w4, wipe_length]) (fun j v' e => by rw [← w4] at e; exact (wipe_some e).1), T.keep _ _ _ st3 fun b hb o e => (pinned b hb o e).1, fun b hb => ?_, w7⟩
        obtain ⟨o, e, _⟩ := T.obj _ _ st3 b hb
        exact (pinned b hb o e).2
      cases bq with
      | false =>
        simp only [Bool.false_eq_true, if_false] at qq ⊢
        exact fin Iq qq
      | true =>
        simp only [if_true] at qq ⊢
        refine thnF (gK.run _ uq σ4 Gq _ Iq qq) fun ky u5 ⟨y5, G5, I5, r5, q5⟩ => ?_
        refine thnF (gV.run _ u5 σ4 G5 _ I5 q5) fun vy u6 ⟨y6, G6, I6, r6, q6⟩ => ?_
        exact dictSetL (X := X.blk sC HC scope ce fp) hu I6 r5 r6 q6 fun u7 G7 I7 nx => fin I7 nx
  exact codeAny_compStart_dict go (T.self X.A 0 _ _ _ stD go)
theorem pe_dcLI {kx vx tg iter : Expr} {ifs : List Expr} {scope : Scope} {own : List (Str × Nat)} {pos : Pos} {wi : TI} {g : TG} {tt : TT} {tk tv : TE} (hu : X.A.units + 20 < cLine) (calm : X.calm = true) (nd : X.N.Nodup) (pi : PI X tg iter wi) (ok : BlkOk X.N X.env.scope scope own)
    (hg : ∀ s H C cl fp, PG (X.blk s H scope (compEnvC scope cl C X.env) fp) tg g) (hq : ∀ s H C cl fp, PTs (X.blk s H scope (compEnvC scope cl C X.env) fp) ifs tt) (hk : ∀ s H C cl fp, PE (X.blk s H scope (compEnvC scope cl C X.env) fp) kx tk)
    (hv : ∀ s H C cl fp, PE (X.blk s H scope (compEnvC scope cl C X.env) fp) vx tv) (fold : ∀ x, foldedSetIterable iter X.env x = pure x := by intro _; rfl) :
    PE X (.DictComp kx vx [⟨tg, iter, ifs, 0⟩] scope pos) (tDcLI X.prog X.w wi g tt tk tv (own.map (·.2))) := ⟨fun pins s σ H Q I h => by
  rw [arm_eval_DictComp]
  exact dcLI_core hu calm nd I pi ok hg hq hk hv fold h fun D C s' m H' I' q ns fo => ⟨m, ns, fun h'' sb => ⟨.ref D, H', I'.turned (t' := s'.toks) (fun b o hb e => (sb.2 b hb).trans e) fo.1 fo.2.1 fo.2.2.2.1 fo.2.2.2.2.1 fo.2.2.2.2.2, rfl, q⟩⟩⟩
theorem dcLI_tup {P : Program} {w : World} {K : PySem.W.Frag} {a : Addr} {xs : List V} {g : TG} {tt : TT} {tk tv : TE} {vs : List Nat} {σ : L2.St} {H2 : Hp} {D : Addr} {Qd : Hp → Prop} (Pv : Nat → Hp → Prop) (h0 : Pv 0 H2) (stay : ∀ i H, i ≤ xs.length → Pv i H → SqT K H a xs)
    (one : ∀ i x H, xs[i]? = some x → Pv i H → g x (wipe σ vs) H fun σ5 H5 => wipe σ5 vs = wipe σ vs ∧ tt σ5 H5 fun b H6 => if b = true then tk σ5 H6 fun y H7 => tv σ5 H7 fun z H8 => rSetL P w (.ref D) y z H8 (Pv (i + 1)) else Pv (i + 1) H6) (end' : ∀ H, Pv xs.length H → Qd H) :
    ∃ W : Nat → Nat → Hp → Prop, (∃ m, W 0 m H2) ∧ ∀ i m H3, W i m H3 → ((Itt K a).stop i H3 ∧ Qd H3) ∨ ((Itt K a).go i H3 ∧ ∃ Nx : Hp → Prop, (∀ H4, Nx H4 → ∃ m', m' < m ∧ W (i + 1) m' H4) ∧ ∀ x H4, (Itt K a).yld i H3 x H4 → g x (wipe σ vs) H4 fun σ5 H5 => wipe σ5 vs = wipe σ vs ∧ tt σ5 H5 fun b H6 => if b = true then tk σ5 H6 fun y H7 => tv σ5 H7 fun z H8 => rSetL P w (.ref D) y z H8 Nx else Nx H6) := by
  refine ⟨fun i m H => m + i = xs.length ∧ Pv i H, ⟨xs.length, rfl, h0⟩, fun i m H3 hW => ?_⟩
  obtain ⟨em, p⟩ := hW
  have sq := stay i H3 (by omega) p
  rcases Nat.lt_or_ge i xs.length with lt | ge
  · refine .inr ⟨⟨xs, xs[i], sq, List.getElem?_eq_getElem lt⟩, Pv (i + 1), fun H4 p' => ⟨m - 1, by omega, by omega, p'⟩, fun x H4 y => ?_⟩
    obtain ⟨e, y⟩ := y
    cases e
    exact one i x H3 (y xs sq) p
  · obtain rfl : i = xs.length := by omega
    exact .inl ⟨⟨xs, sq, Nat.le_refl _⟩, end' H3 p⟩
end
end Pw
namespace Pw
open PySem PySem.Spec PyProof.Rows L2
section
variable {X : Cx}
theorem ps_setDcL {i : Nat} {y : Str} {py : Pos} {kx vx tg iter : Expr} {ifs : List Expr} {scope : Scope} {own : List (Str × Nat)} {pos spos : Pos} {wi : TI} {g : TG} {tt : TT} {tk tv : TE} (hu : X.A.units + 20 < cLine) (calm : X.calm = true) (nd : X.N.Nodup) (hy : X.N[i]? = some y) (yl : X.env.scope.names.lookup y = some .local)
    (sw : swapsWith (.DictComp kx vx [⟨tg, iter, ifs, 0⟩] scope pos) (some (.Name y py)) spos.line X.env = pure true) (pi : PI X tg iter wi) (ok : BlkOk X.N X.env.scope scope own)
    (hg : ∀ s H C cl fp, PG (X.blk s H scope (compEnvC scope cl C X.env) fp) tg g) (hq : ∀ s H C cl fp, PTs (X.blk s H scope (compEnvC scope cl C X.env) fp) ifs tt) (hk : ∀ s H C cl fp, PE (X.blk s H scope (compEnvC scope cl C X.env) fp) kx tk)
    (hv : ∀ s H C cl fp, PE (X.blk s H scope (compEnvC scope cl C X.env) fp) vx tv) (fold : ∀ x, foldedSetIterable iter X.env x = pure x := by intro _; rfl) :
    PS X (.Assign [.Name y py] (.DictComp kx vx [⟨tg, iter, ifs, 0⟩] scope pos) spos) (tAsg (tDcLI X.prog X.w wi g tt tk tv (own.map (·.2))) (gName i)) := ⟨fun pins s σ H D I h => by
  rw [exec_Assign_Name_used _ _ _ _ sw]
  refine wpAny_bind (wpAny_standAt (wpAny_bind ?_))
  show wpAny _ X.A (do let _ ← comprehension (.DictComp kx vx [⟨tg, iter, ifs, 0⟩] scope pos) scope X.env (firstIterPos [⟨tg, iter, ifs, 0⟩] pos) newDict false (eval iter X.env) (some (assign (.Name y py) X.env))) _ _ s
  have h : tDcLI X.prog X.w wi g tt tk tv (own.map (·.2)) σ H (fun x H1 => gName i x σ H1 D.nx) := h
  refine wpAny_bind (thn (dcLI_core (Qf := fun _ u => SP X pins D .next u) hu calm nd I pi ok hg hq hk hv fold h fun L C u m H' I' q ns fo => ?_) fun _ u hq => wpAny_pure (wpAny_pure hq))
  show wpAny _ _ (assign (.Name y py) X.env (.ref L)) _ _ _
  refine wpAny_assign_Name (store_ok2 (v := V.ref L) I' nd hy (.inl yl) rfl (fun u2 I2 ⟨a, sb, ha⟩ => ?_) (.inr yl))
  have apart : C ≠ a := ha.elim (fun z => by rw [z]; exact fo.2.1) fun z e => fo.2.2.2.2.1 y a z e.symm
  exact ⟨m, ns.sameBut sb apart, fun h3 sb3 => ⟨_, H', I2.turned (t' := u2.toks) (fun b o hb e => (sb3.2 b hb).trans e) fo.1 fo.2.1 fo.2.2.2.1 fo.2.2.2.2.1 fo.2.2.2.2.2, q⟩⟩⟩
theorem ps_setDcK {i : Nat} {y : Str} {py : Pos} {kx vx tg iter : Expr} {ifs : List Expr} {scope : Scope} {own : List (Str × Nat)} {pos spos : Pos} {wi : TI} {g : TG} {tt : TT} {tk tv : TE} (hu : X.A.units + 20 < cLine) (calm : X.calm = true) (nd : X.N.Nodup) (hy : X.N[i]? = some y) (yl : X.env.scope.names.lookup y = some .local)
    (sw : swapsWith (.DictComp kx vx [⟨tg, iter, ifs, 0⟩] scope pos) (some (.Name y py)) spos.line X.env = pure true) (pi : PI X tg iter wi) (ok : BlkOk X.N X.env.scope scope own)
    (hg : ∀ s H C cl fp, PG (X.blk s H scope (compEnvC scope cl C X.env) fp) tg g) (hq : ∀ s H C cl fp, PTs (X.blk s H scope (compEnvC scope cl C X.env) fp) ifs tt) (hk : ∀ s H C cl fp, PE (X.blk s H scope (compEnvC scope cl C X.env) fp) kx tk)
    (hv : ∀ s H C cl fp, PE (X.blk s H scope (compEnvC scope cl C X.env) fp) vx tv) (fold : ∀ x, foldedSetIterable iter X.env x = pure x := by intro _; rfl) :
    PS X (.Assign [.Name y py] (.DictComp kx vx [⟨tg, iter, ifs, 0⟩] scope pos) spos) (tAsg (tDc wi g tt tk tv (own.map (·.2))) (gName i)) := ⟨fun pins s σ H D I h => by
  rw [exec_Assign_Name_used _ _ _ _ sw]
  refine wpAny_bind (wpAny_standAt (wpAny_bind ?_))
  show wpAny _ X.A (do let _ ← comprehension (.DictComp kx vx [⟨tg, iter, ifs, 0⟩] scope pos) scope X.env (firstIterPos [⟨tg, iter, ifs, 0⟩] pos) newDict false (eval iter X.env) (some (assign (.Name y py) X.env))) _ _ s
  have h : tDc wi g tt tk tv (own.map (·.2)) σ H (fun x H1 => gName i x σ H1 D.nx) := h
  refine wpAny_bind (thn (dc_core (Qf := fun _ u => SP X pins D .next u) calm nd I pi ok hg hq hk hv fold h fun L C u m H' I' q ns fo => ?_) fun _ u hq => wpAny_pure (wpAny_pure hq))
  show wpAny _ _ (assign (.Name y py) X.env (.ref L)) _ _ _
  refine wpAny_assign_Name (store_ok2 (v := V.ref L) I' nd hy (.inl yl) rfl (fun u2 I2 ⟨a, sb, ha⟩ => ?_) (.inr yl))
  have apart : C ≠ a := ha.elim (fun z => by rw [z]; exact fo.2.1) fun z e => fo.2.2.2.2.1 y a z e.symm
  exact ⟨m, ns.sameBut sb apart, fun h3 sb3 => ⟨_, H', I2.turned (t' := u2.toks) (fun b o hb e => (sb3.2 b hb).trans e) fo.1 fo.2.1 fo.2.2.2.1 fo.2.2.2.2.1 fo.2.2.2.2.2, q⟩⟩⟩
theorem dcLI_list {P : Program} {w : World} {K : PySem.W.Frag} {a : Addr} {xs : List V} {g : TG} {tt : TT} {tk tv : TE} {vs : List Nat} {σ : L2.St} {H2 : Hp} {D : Addr} {Qd : Hp → Prop} (Pv : Nat → Hp → Prop) (h0 : Pv 0 H2) (stay : ∀ i H, i ≤ xs.length → Pv i H → SqL K H a xs)
    (one : ∀ i x H, xs[i]? = some x → Pv i H → g x (wipe σ vs) H fun σ5 H5 => wipe σ5 vs = wipe σ vs ∧ tt σ5 H5 fun b H6 => if b = true then tk σ5 H6 fun y H7 => tv σ5 H7 fun z H8 => rSetL P w (.ref D) y z H8 (Pv (i + 1)) else Pv (i + 1) H6) (end' : ∀ H, Pv xs.length H → Qd H) :
    ∃ W : Nat → Nat → Hp → Prop, (∃ m, W 0 m H2) ∧ ∀ i m H3, W i m H3 → ((Itl K a).stop i H3 ∧ Qd H3) ∨ ((Itl K a).go i H3 ∧ ∃ Nx : Hp → Prop, (∀ H4, Nx H4 → ∃ m', m' < m ∧ W (i + 1) m' H4) ∧ ∀ x H4, (Itl K a).yld i H3 x H4 → g x (wipe σ vs) H4 fun σ5 H5 => wipe σ5 vs = wipe σ vs ∧ tt σ5 H5 fun b H6 => if b = true then tk σ5 H6 fun y H7 => tv σ5 H7 fun z H8 => rSetL P w (.ref D) y z H8 Nx else Nx H6) := by
  refine ⟨fun i m H => m + i = xs.length ∧ Pv i H, ⟨xs.length, rfl, h0⟩, fun i m H3 hW => ?_⟩
  obtain ⟨em, p⟩ := hW
  have sq := stay i H3 (by omega) p
  rcases Nat.lt_or_ge i xs.length with lt | ge
  · refine .inr ⟨⟨xs, xs[i], sq, List.getElem?_eq_getElem lt⟩, Pv (i + 1), fun H4 p' => ⟨m - 1, by omega, by omega, p'⟩, fun x H4 y => ?_⟩
    obtain ⟨e, y⟩ := y
    cases e
    exact one i x H3 (y xs sq) p
  · obtain rfl : i = xs.length := by omega
    exact .inl ⟨⟨xs, sq, Nat.le_refl _⟩, end' H3 p⟩
theorem dcLI_enum {P : Program} {w : World} {K : PySem.W.Frag} {a : Addr} {xs : List V} {g : TG} {tt : TT} {tk tv : TE} {vs : List Nat} {σ : L2.St} {H2 : Hp} {D : Addr} {Qd : Hp → Prop} (Pv : Nat → Hp → Prop) (h0 : Pv 0 H2) (stay : ∀ i H, i ≤ xs.length → Pv i H → SqL K H a xs)
    (one : ∀ i x H, xs[i]? = some x → Pv i H → ∀ t, H t = none → g (.ref t) (wipe σ vs) (upd H t (.tup [.int (i : Nat), x])) fun σ5 H5 => wipe σ5 vs = wipe σ vs ∧ tt σ5 H5 fun b H6 => if b = true then tk σ5 H6 fun y H7 => tv σ5 H7 fun z H8 => rSetL P w (.ref D) y z H8 (Pv (i + 1)) else Pv (i + 1) H6) (end' : ∀ H, Pv xs.length H → Qd H) :
    ∃ W : Nat → Nat → Hp → Prop, (∃ m, W 0 m H2) ∧ ∀ i m H3, W i m H3 → ((Ite K a).stop i H3 ∧ Qd H3) ∨ ((Ite K a).go i H3 ∧ ∃ Nx : Hp → Prop, (∀ H4, Nx H4 → ∃ m', m' < m ∧ W (i + 1) m' H4) ∧ ∀ x H4, (Ite K a).yld i H3 x H4 → g x (wipe σ vs) H4 fun σ5 H5 => wipe σ5 vs = wipe σ vs ∧ tt σ5 H5 fun b H6 => if b = true then tk σ5 H6 fun y H7 => tv σ5 H7 fun z H8 => rSetL P w (.ref D) y z H8 Nx else Nx H6) := by
  refine ⟨fun i m H => m + i = xs.length ∧ Pv i H, ⟨xs.length, rfl, h0⟩, fun i m H3 hW => ?_⟩
  obtain ⟨em, p⟩ := hW
  have sq := stay i H3 (by omega) p
  rcases Nat.lt_or_ge i xs.length with lt | ge
  · refine .inr ⟨⟨xs, xs[i], sq, List.getElem?_eq_getElem lt⟩, Pv (i + 1), fun H4 p' => ⟨m - 1, by omega, by omega, p'⟩, fun x H4 y => ?_⟩
    obtain ⟨t, x', rfl, ht, rfl, y⟩ := y
    exact one i x' H3 (y xs sq) p t ht
  · obtain rfl : i = xs.length := by omega
    exact .inl ⟨⟨xs, sq, Nat.le_refl _⟩, end' H3 p⟩
/-- over a list that stays, keys raw -/
theorem dcK_list {K : PySem.W.Frag} {a : Addr} {xs : List V} {g : TG} {tt : TT} {tk tv : TE} {vs : List Nat} {σ : L2.St} {H2 : Hp} {D : Addr} {Qd : Hp → Prop} (Pv : Nat → Hp → Prop) (h0 : Pv 0 H2) (stay : ∀ i H, i ≤ xs.length → Pv i H → SqL K H a xs)
    (one : ∀ i x H, xs[i]? = some x → Pv i H → g x (wipe σ vs) H fun σ5 H5 => wipe σ5 vs = wipe σ vs ∧ tt σ5 H5 fun b H6 => if b = true then tk σ5 H6 fun y H7 => tv σ5 H7 fun z H8 => ∃ kvs k, y = kV k ∧ H8 D = some (.dK kvs) ∧ kvs.length < sizeLine ∧ Pv (i + 1) (upd H8 D (.dK (putK kvs k z))) else Pv (i + 1) H6) (end' : ∀ H, Pv xs.length H → Qd H) :
    ∃ W : Nat → Nat → Hp → Prop, (∃ m, W 0 m H2) ∧ ∀ i m H3, W i m H3 → ((Itl K a).stop i H3 ∧ Qd H3) ∨ ((Itl K a).go i H3 ∧ ∃ Nx : Hp → Prop, (∀ H4, Nx H4 → ∃ m', m' < m ∧ W (i + 1) m' H4) ∧ ∀ x H4, (Itl K a).yld i H3 x H4 → g x (wipe σ vs) H4 fun σ5 H5 => wipe σ5 vs = wipe σ vs ∧ tt σ5 H5 fun b H6 => if b = true then tk σ5 H6 fun y H7 => tv σ5 H7 fun z H8 => ∃ kvs k, y = kV k ∧ H8 D = some (.dK kvs) ∧ kvs.length < sizeLine ∧ Nx (upd H8 D (.dK (putK kvs k z))) else Nx H6) := by
  refine ⟨fun i m H => m + i = xs.length ∧ Pv i H, ⟨xs.length, rfl, h0⟩, fun i m H3 hW => ?_⟩
  obtain ⟨em, p⟩ := hW
  have sq := stay i H3 (by omega) p
  rcases Nat.lt_or_ge i xs.length with lt | ge
  · refine .inr ⟨⟨xs, xs[i], sq, List.getElem?_eq_getElem lt⟩, Pv (i + 1), fun H4 p' => ⟨m - 1, by omega, by omega, p'⟩, fun x H4 y => ?_⟩
    obtain ⟨e, y⟩ := y
    cases e
    exact one i x H3 (y xs sq) p
  · obtain rfl : i = xs.length := by omega
    exact .inl ⟨⟨xs, sq, Nat.le_refl _⟩, end' H3 p⟩
end
end Pw
namespace Pw
open PySem PySem.Spec PyProof.Rows L2
abbrev noSet (w : World) : Obj := { cls := .type "set", dict := none, data := .set #[] 0 (.fresh 0 0 (!w.params.followText "set-order")) }
section
variable {P : Program} {w : World} {A : Around} {E : Value → Shared → Prop} {s : Shared}
set_option maxHeartbeats 3200000 in
theorem set_of_list {l : Addr} {items : Array Value} (ns : List Int) {Q : Value → Shared → Prop} (calm : A.handled = none) (isl : s.heap.IsList l items) (areI : IntsAre items.toList ns) (small : ns.length + 1 < scanBound)
    (h : ∀ (h' : Heap) (tk c : Nat), SetR w h' s.heap.objs.size (fun j => decide (j ∈ ns)) c → (∀ b o, s.heap.get? b = some o → h'.get? b = some o) → Q (.ref s.heap.objs.size) { s with heap := h', toks := tk }) :
    wpAny (model P w) A (call (.type "set") [.ref l]) Q E s := by
  have len : items.size = ns.length := by rw [← Array.length_toList]; exact IntsAre.length areI
  obtain ⟨c0, c1, c2⟩ := F.called_set.mro
  have c3 := F.called_set.made
  have c4 := F.called_set.sub
  refine wpAny_call (codeAny_of_tree (show wpAny _ _ (callAny (.type "set") _) _ _ _ from wpAny_pure ⟨Code.quiet_builtin _ (by decide +kernel), codeAny_builtin F.entry_type_call ?_⟩))
  rw [Around.under_plain (weight_type_call_type "set" [.ref l] []) rfl]
  have c5 := F.called_set.notType
  have c6 := F.called_set.canCreate
  have c7 := F.typeCall_set_1 (.ref l)
  repeat (any_goals (first | assumption | wp_step))
  refine codeAny_mono (code_set_led1 (.ref l) (E := E) (Q₁ := fun x u => x = .ref s.heap.objs.size ∧ u = { s with heap := s.heap.push (noSet w) }) ⟨rfl, rfl⟩) fun r u hr => ?_
  rcases r with e | fl
  case error => exact hr
  case ok =>
    cases fl with
    | ret x =>
      obtain ⟨rfl, rfl⟩ := hr
      have here : (s.heap.push (noSet w)).get? s.heap.objs.size = some (noSet w) := Heap.get?_push_size _ rfl
      have typ : Shared.TypeIs { s with heap := s.heap.push (noSet w) } (.ref s.heap.objs.size) "set" := ⟨_, here, rfl⟩
      have i0 := F.called_set.init.lookup
      have i1 := F.called_set.init.bind (.ref s.heap.objs.size)
      repeat (any_goals (first | assumption | wp_step))
      refine codeAny_mono (codeAny_call_builtin (R := wants (fun x u => x = .none ∧ ∃ h' tk c, u = { s with heap := h', toks := tk } ∧ SetR w h' s.heap.objs.size (fun j => decide (j ∈ ns)) c ∧ (∀ b o, s.heap.get? b = some o → h'.get? b = some o)) E)
        F.called_set.init.plain F.entry_set_init (check_set_init_1 typ ?_)) fun r2 u2 hr2 => ?_
      · obtain ⟨⟨k1, k2, k3, k4⟩, get, e1, m, e2⟩ := isl
        simp only at e1 e2
        subst e1 e2
        have lt : l < s.heap.objs.size := Heap.lt_size get
        have isl2 : (s.heap.push (noSet w)).IsList l items := ⟨_, Heap.get?_push_of_some _ get, rfl, m, rfl⟩
        have get2 : (s.heap.push (noSet w)).get? l = some { cls := .type "list", dict := k2, data := .seq items m, slots := k4 } := Heap.get?_push_of_some _ get
        have f0 := F.sub_list_set
        have f1 := F.sub_list_frozenset
        have f2 : (Value.type "list" == Value.type "dict") = false := by decide
        unfold Builtin.«set.__init__» noKeywords Builtin.Frozenset.updateFrom
        generalize ePI : pyIter = PI
        wp_walk
        subst ePI
        refine wpAny_pyIter_list isl2 (wpAny_bind (wpAny_runValue ?_))
        have sz : (s.heap.push (noSet w)).objs.size = s.heap.objs.size + 1 := Heap.size_push ..
        have a1 : l ≠ (s.heap.push (noSet w)).objs.size := by rw [sz]; exact Nat.ne_of_lt (Nat.lt_succ_of_lt lt)
        have a2 : s.heap.objs.size ∉ [(s.heap.push (noSet w)).objs.size, l] := by
          rw [sz]; intro z
          rcases List.mem_cons.mp z with z | z
          · exact absurd z (Nat.ne_of_lt (Nat.lt_succ_self _))
          · exact absurd (List.mem_singleton.mp z) (Nat.ne_of_gt lt)
        refine set_update_ints ((Walks.list (A := A.in1.in1.in1) (by simp [calm]) _ l a1 items).toS) s.heap.objs.size a2 ns len small (fun i v hv => ?_) items.size 0 _ (by omega) (Nat.zero_le _) ?at0
          ?st fun s' c' mv _ R => ?_
        case at0 => exact ⟨⟨_, Heap.get?_push_size _ rfl, rfl, rfl⟩, isl2.push _⟩
        case st =>
          have z := Heap.get?_push_of_some { cls := .type "list_iterator", data := .fields #[.ref l, .int 0 0] } here
          exact ⟨0, Nat.le_refl 0, setR_new_at z⟩
        · have hi : i < ns.length := by rw [← len]; exact (Array.getElem?_eq_some_iff.mp hv).1
          obtain ⟨t, e⟩ := PyProof.Rows.IntsAre.int_at areI i v (by rw [Array.getElem?_toList]; exact hv)
          exact ⟨ns[i], t, List.getElem?_eq_getElem hi, by rw [e, List.getD_eq_getElem?_getD, List.getElem?_eq_getElem hi] <;> rfl⟩
        · obtain ⟨h', g', d', tk', os'⟩ := s'
          obtain rfl : g' = s.gens := mv.gens
          obtain rfl : d' = s.drawn := mv.drawn
          obtain rfl : os' = s.os := mv.os
          show wpAny _ _ _ _ _ _
          refine wpAny_pure (show wpAny _ _ (ret Value.none) _ _ _ from wpAny_pure ⟨rfl, h', tk', c', rfl, R, fun b o e => ?_⟩)
          have b0 : b < s.heap.objs.size := Heap.lt_size e
          refine mv.heap b o (fun z => ?_) (Heap.get?_push_of_some _ (Heap.get?_push_of_some _ e))
          rcases List.mem_cons.mp z with z | z
          · exact absurd z (Nat.ne_of_lt b0)
          · have z := List.mem_singleton.mp z
            rw [sz] at z
            exact absurd z (Nat.ne_of_lt (Nat.lt_succ_of_lt b0))
      · rcases r2 with e2 | fl2
        case error => exact hr2
        case ok =>
          cases fl2 with
          | ret x =>
            obtain ⟨rfl, h', tk, c, rfl, R, keep⟩ := hr2
            repeat (any_goals (first | assumption | wp_step))
            exact h _ _ _ R keep
          | _ => exact hr2.elim
    | _ => exact hr.elim
end
end Pw
namespace Pw
open PySem PySem.Spec PyProof.Rows L2
theorem intsOf_len (ns : List Nat) : (intsOf ns).length = ns.length := by unfold intsOf; rw [List.length_map]
/-- the first page of a drawn context -/
theorem Pc.good0 {g : Pq} {st pres : List Nat} (gok : g.Ok) (hst : ∀ n ∈ st, n < 1000) (hsl : st.length ≤ 2) (hp : ∀ k ∈ pres, k < g.parts.length) (hpl : pres.length ≤ 2) : Pc.Good ⟨g, intsOf st, [], pres⟩ :=
  ⟨⟨gok, intsOf_sm hst, by show (intsOf st).length ≤ 2; rw [intsOf_len]; exact hsl, by simp, by simp, hp, hpl⟩, by simp⟩
theorem page_facts {X : Pc} (h : X.Good) : Nd.hts (fill X 12 [] (X.sc [] 0 []) (X.comp 0).cs []) ≤ 12 ∧ Nd.cnts (fill X 12 [] (X.sc [] 0 []) (X.comp 0).cs []) ≤ 70000 ∧ Nd.Poks (fill X 12 [] (X.sc [] 0 []) (X.comp 0).cs []) := by
  have c := h.comp (Nat.zero_le _)
  refine ⟨fill_ht X 12 _ _ _ _, ?_, fill_pok h.toOk 12 0 true [] _ _ [] (Nat.zero_le _) c.oks c.deps PathOk.nil PathOk.nil (by simp)⟩
  have h1 := fill_cnt h.toOk 12 0 true [] (X.sc [] 0 []) (X.comp 0).cs [] (Nat.zero_le _) c.oks
  have h2 := Tp.insts_le _ c.echs
  have h3 := c.cnts
  have h4 : Tp.insts (X.comp 0).cs ≤ 40 := by omega
  have h5 := Nat.mul_le_mul_right (below (X.g.comps.length - 1) 0) h4
  have h6 := below_tot (X.g.comps.length - 1) 0
  have h7 : tot (X.g.comps.length - 1 - 0) ≤ tot 2 := tot_mono (by have := h.g.many; omega)
  have h8 : tot 2 = 65640 := by decide
  omega
theorem fieldOf_pok {l : List Nd} (h : Nd.Poks l) : ∀ x ∈ fieldOf l, PathOk x.1 := by
  intro x hx
  unfold fieldOf at hx
  cases e : l.getLast? with
  | none => rw [e] at hx; cases hx
  | some n =>
    rw [e] at hx
    have hm := poks_mem h n (List.mem_of_getLast? e)
    cases n with
    | input p t o c v => cases hx; exact hm.2
    | _ => cases hx
theorem poks_rev {l : List Nd} (h : Nd.Poks l) : Nd.Poks l.reverse := poks_of fun n hn => poks_mem h n (List.mem_reverse.mp hn)
theorem pathT_ref {H : Hp} {p : Path} {v : V} (h : IsT H (pathT p) v) : ∃ a xs, v = .ref a ∧ H a = some (.tup xs) := let ⟨a, xs, e, e2, _⟩ := h.inv; ⟨a, xs, e, e2⟩
end Pw
namespace Pw
open PySem PySem.Spec PyProof.Rows L2
theorem nodup_le : ∀ (l D : List Int), l.Nodup → (∀ x ∈ l, x ∈ D) → l.length ≤ D.length
  | [], D, _, _ => Nat.zero_le _
  | x :: l, D, nd, h => by
    have hx := h x (by simp)
    have nx := List.nodup_cons.mp nd
    have z := nodup_le l (D.erase x) nx.2 (fun y hy => (List.mem_erase_of_ne (fun (e : y = x) => nx.1 (e ▸ hy))).mpr (h y (by simp [hy])))
    rw [List.length_erase_of_mem hx] at z
    have := List.length_pos_of_mem hx
    simp only [List.length_cons]
    omega
section
variable {X : Cx}
/-- set(l) of a list of ints -/
def rSetI (w : World) : List V → Hp → VK → Prop := fun vs H Q => ∃ (l : Addr) (ns : List Int), vs = [V.ref l] ∧ H l = some (.lst (ns.map V.int)) ∧ ns.length < 4000 ∧ ∀ p c, H p = none → (∀ D : List Int, (∀ j ∈ ns, j ∈ D) → c ≤ D.length) → Q (.ref p) (upd H p (SetO w p (fun j => decide (j ∈ ns)) c))
theorem cr_setI (hc : X.calm = true) : CallR X (.type "set") (rSetI X.w) := by
  intro pins s σ H vs us Q I r h
  obtain ⟨l, ns, rfl, hl, small, q⟩ := h
  rw [Vals.ref1 r]
  obtain ⟨z, its, n, rv, hlen, e⟩ := I.lstM hl
  refine set_of_list (A := X.A) ns (I.ok.hd hc) ⟨_, e, rfl, n, rfl⟩ (ints_of_vals rv) (Nat.lt_trans (Nat.add_lt_add_right small 1) (by decide)) fun h' tk c R keep => ?_
  refine ⟨.ref _, _, I.laid (t' := tk) keep (Nat.le_refl _) (setO_new R), rfl, q _ c (I.hok.fresh (Nat.le_refl _)) fun D hD => ?_⟩
  obtain ⟨o, es, ep, t, _, _, _, _, nd, mem, _, _, sz, _⟩ := R
  have z := nodup_le _ D nd fun x hx => hD x (by simpa using (mem x).mpr hx)
  rw [List.length_map, Array.length_toList] at z
  omega
end
/-! ### parts once -/
mutual
theorem Tp.dis1_pts : ∀ (t : Tp) (c : Sc) (addr reps : List Int), ∀ d ∈ t.dis1 c addr reps, d.tp.pts.Sublist t.pts
  | .when e cs os, c, addr, reps, d, h => by
    simp only [Tp.dis1] at h
    simp only [Tp.pts]
    split at h
    · exact (Tp.dis_pts os c _ reps 0 d h).trans (List.sublist_append_right _ _)
    · exact (Tp.dis_pts cs c _ reps 0 d h).trans (List.sublist_append_left _ _)
  | .each e cs, c, addr, reps, d, h => by
    simp only [Tp.dis1, List.mem_flatMap] at h
    obtain ⟨n, _, h⟩ := h
    exact Tp.dis_pts cs _ addr _ 0 d h
  | .text _, c, addr, reps, d, h | .show _, c, addr, reps, d, h | .input _ _, c, addr, reps, d, h | .part _, c, addr, reps, d, h | .box _ _ _ _, c, addr, reps, d, h | .child _ _ _, c, addr, reps, d, h => by
    simp only [Tp.dis1, List.mem_singleton] at h
    subst h
    exact List.Sublist.refl _
theorem Tp.dis_pts : ∀ (ts : List Tp) (c : Sc) (before reps : List Int) (k : Nat), ∀ d ∈ Tp.dis c before reps k ts, d.tp.pts.Sublist (Tp.ptss ts)
  | [], c, before, reps, k, d, h => nomatch h
  | t :: ts, c, before, reps, k, d, h => by
    simp only [Tp.dis, List.mem_append] at h
    simp only [Tp.ptss]
    rcases h with h | h
    · exact (Tp.dis1_pts t c _ reps d h).trans (List.sublist_append_left _ _)
    · exact (Tp.dis_pts ts c before reps (k + 1) d h).trans (List.sublist_append_right _ _)
end
/-! ### what was told -/
def lastOf : List (Path × List Int) → Path → Option (List Int)
  | [], _ => none
  | it :: r, p => (lastOf r p).or (if it.1 = p then some it.2 else none)
theorem lastOf_app (b : List (Path × List Int)) (p : Path) : ∀ a : List (Path × List Int), lastOf (a ++ b) p = (lastOf b p).or (lastOf a p)
  | [] => by simp [lastOf]
  | it :: a => by simp only [List.cons_append, lastOf, lastOf_app b p a, Option.or_assoc]
theorem lastOf_fold (p : Path) : ∀ (cs : List (Path × List Int)) (z : List Int), cs.foldl (fun acc it => if it.1 = p then it.2 else acc) z = (lastOf cs p).getD z
  | [], z => rfl
  | it :: r, z => by
    rw [List.foldl_cons, lastOf_fold p r, lastOf]
    cases lastOf r p <;> by_cases e : it.1 = p <;> simp [e]
def RelT (H : Hp) : Option (List Int) → Option V → Prop
  | none, none => True
  | some xs, some v => IsT H (intsT xs) v
  | _, _ => False
theorem RelT.oth {H H' : Hp} {S : List Addr} {a : Option (List Int)} {b : Option V} (h : RelT H a b) (o : Oth S H H') : RelT H' a b := by
  cases a <;> cases b <;> first | exact h | exact IsT.oth h o
def Told (H : Hp) (cs : List (Path × List Int)) (kvs : List (NestedKey × V)) : Prop := ∀ p : Path, RelT H (lastOf cs p) (valV kvs (pathT p).nk)
theorem Told.nil {H : Hp} : Told H [] [] := fun p => True.intro
theorem Told.put {H : Hp} {cs : List (Path × List Int)} {kvs : List (NestedKey × V)} (h : Told H cs kvs) {p : Path} {xs : List Int} {v : V} (t : IsT H (intsT xs) v) : Told H (cs ++ [(p, xs)]) (putK kvs (pathT p).nk v) := fun q => by
  rw [lastOf_app, valV_put]
  by_cases e : p = q
  · subst e
    simp only [lastOf, if_true, Option.or_some, Option.or]
    exact t
  · have e' : ¬ (pathT q).nk = (pathT p).nk := fun z => e (path_nk.mp z).symm
    simp only [lastOf, if_neg e, if_neg e', Option.or]
    exact h q
theorem Told.oth {H H' : Hp} {S : List Addr} {cs : List (Path × List Int)} {kvs : List (NestedKey × V)} (h : Told H cs kvs) (o : Oth S H H') : Told H' cs kvs := fun p => (h p).oth o
theorem path_depth : ∀ p : Path, NestedKey.depthAll (T.nks (p.map Nm.toT)) ≤ 3
  | [] => by simp [T.nks, NestedKey.depthAll]
  | n :: p => by
    have h := path_depth p
    cases n <;> simp only [List.map_cons, Nm.toT, intsT, T.nks, T.nk, NestedKey.depthAll, NestedKey.depth, nk_depths_int] <;> omega
theorem path_nobs : ∀ p : Path, T.nobs (p.map Nm.toT) = true
  | [] => rfl
  | n :: p => by simp only [List.map_cons, T.nobs, Nm.nob, path_nobs p, Bool.and_self]
theorem path_nob (p : Path) : (pathT p).nob = true := path_nobs p
/-- the key of a path is that path -/
theorem key_path {H : Hp} {p : Path} {b : Addr} (h : NKey H (pathT p).nk b) : IsT H (pathT p) (.ref b) := by
  obtain ⟨t, e, i, _, z⟩ := h
  rw [nk_one t (pathT p) z (path_nob p) e] at i
  exact i
theorem path_key {H : Hp} {p : Path} {v : V} (h : IsT H (pathT p) v) : ∃ b, v = .ref b ∧ NKey H (pathT p).nk b := by
  obtain ⟨b, xs, rfl, _⟩ := h.inv
  refine ⟨b, rfl, _, rfl, h, ?_, path_nob p⟩
  have := path_depth p
  simp only [pathT, T.nk, NestedKey.depth]
  omega
/-! ### what a page is made from -/
structure Given (P : Program) (w : World) (H : Hp) (ga td : Addr) (X : Pc) : Prop where
  ex : ∃ vp vs vr kvs, H ga = some (.tup [vp, vs, .ref td, vr]) ∧ IsT H X.g.toT vp ∧ IsT H (intsT X.st) vs ∧ DN P w H td kvs ∧ Told H X.cs kvs ∧ IsT H (natsT X.pres) vr
section
variable {P : Program} {w : World} {H H' : Hp} {ga td : Addr} {X : Pc}
theorem Given.oth {S : List Addr} (h : Given P w H ga td X) (o : Oth S H H') (n : td ∉ S) : Given P w H' ga td X := by
  obtain ⟨vp, vs, vr, kvs, e, a, b, d, t, r⟩ := h.ex
  exact ⟨_, _, _, kvs, o.tup _ _ e, a.oth o, b.oth o, d.oth o n, t.oth o, r.oth o⟩
theorem Given.nl (h : Given P w H ga td X) {l : Addr} {L : List V} (e : H l = some (.lst L)) : td ≠ l := by
  obtain ⟨vp, vs, vr, kvs, _, a, b, d, t, r⟩ := h.ex
  obtain ⟨φ, z⟩ := d.is
  intro ee
  rw [ee, e] at z
  cases z
theorem Given.nn (h : Given P w H ga td X) {l : Addr} (e : H l = none) : td ≠ l := by
  obtain ⟨vp, vs, vr, kvs, _, a, b, d, t, r⟩ := h.ex
  exact d.ne e
end
def compT (X : Pc) (n : Nat) (p : Path) (d : Nat) (props : List Int) : T := .tup [intsT (X.reads (lkAll n (X.sc p d props) (X.comp d).cs)), .tup (Nd.toTs (fill X n p (X.sc p d props) (X.comp d).cs p))]
def spMkComp (P : Program) (w : World) (n : Nat) : Sp := fun vs H Q _ => ∃ (X : Pc) (d : Nat) (p : Path) (props : List Int) (vp vq : V) (ga td : Addr), vs = [.ref ga, .int (d : Int), vp, vq] ∧ Given P w H ga td X ∧ X.Good ∧ IsT H (pathT p) vp ∧ IsT H (intsT props) vq ∧
  d ≤ X.g.comps.length - 1 ∧ Sm props ∧ 3 + 4 * (X.g.comps.length - 1 - d) < n ∧ PathOk p ∧ p.length + n ≤ 400 ∧
  ∀ v H', IsT H' (compT X n p d props) v → Oth [] H H' → Q v H'
def spMkChild (P : Program) (w : World) (n : Nat) : Sp := fun vs H Q _ => ∃ (X : Pc) (d : Nat) (p : Path) (props : List Int) (vp vq : V) (ga td : Addr), vs = [.ref ga, .int (d : Int), vp, vq] ∧ Given P w H ga td X ∧ X.Good ∧ IsT H (pathT p) vp ∧ IsT H (intsT props) vq ∧
  d ≤ X.g.comps.length - 1 ∧ Sm props ∧ 3 + 4 * (X.g.comps.length - 1 - d) < n ∧ PathOk p ∧ p.length + n ≤ 400 ∧
  ∀ v H', IsT H' (child X n p d props).toT v → Oth [] H H' → Q v H'
def spMkPart (P : Program) (w : World) (n : Nat) : Sp := fun vs H Q _ => ∃ (X : Pc) (kp : Nat) (p : Path) (o : Path) (c : Sc) (vp : V) (ga td : Addr), vs = [.ref ga, .int (kp : Int), vp] ∧ Given P w H ga td X ∧ X.Good ∧ IsT H (pathT p) vp ∧
  4 * (X.g.comps.length - 1) ≤ n ∧ PathOk p ∧ p.length + n ≤ 400 ∧
  ∀ v H', IsT H' (nodeOf X (fill X n) (lkAll n) o c p (.part kp)).toT v → Oth [] H H' → Q v H'
def spMkNode (P : Program) (w : World) (n : Nat) : Sp := fun vs H Q _ => ∃ (X : Pc) (own D : Nat) (free : Bool) (o p : Path) (c : Sc) (t : Tp) (vt vo vp vc : V) (ga td l : Addr) (L : List V), vs = [.ref ga, vt, vo, vp, vc, .ref l] ∧ Given P w H ga td X ∧ X.Good ∧ IsT H (pathT o) vo ∧ IsT H (pathT p) vp ∧
  IsT H c.toT vc ∧ H l = some (.lst L) ∧ IsT H t.toT vt ∧ c.Sm ∧ own ≤ X.g.comps.length - 1 ∧ t.node = true ∧ t.Ok own (X.g.comps.length - 1) free ∧ t.pts.Nodup ∧ t.wt ≤ 600 ∧ t.dep ≤ D ∧ D ≤ 3 ∧ D + 4 * (X.g.comps.length - 1 - own) ≤ n ∧
  L.length + (D + 1) * t.wt ≤ 40000 ∧ PathOk p ∧ p.length + n ≤ 400 ∧
  ∀ v H', IsT H' (nodeOf X (fill X n) (lkAll n) o c p t).toT v → H' l = some (.lst (L ++ (nodeLk (lkAll n) c t).map V.int)) → Oth [l] H H' → Q v H'
def spMkNodes (P : Program) (w : World) (n : Nat) : Sp := fun vs H Q _ => ∃ (X : Pc) (own : Nat) (free : Bool) (o p : Path) (c : Sc) (ts : List Tp) (vt vo vp vc : V) (ga td l : Addr) (L : List V), vs = [.ref ga, vt, vo, vp, vc, .ref l] ∧ Given P w H ga td X ∧ X.Good ∧ IsT H (pathT o) vo ∧ IsT H (pathT p) vp ∧
  IsT H c.toT vc ∧ H l = some (.lst L) ∧ IsT H (.tup (Tp.toTs ts)) vt ∧ c.Sm ∧ own ≤ X.g.comps.length - 1 ∧ Tp.Oks own (X.g.comps.length - 1) free ts ∧ (Tp.ptss ts).Nodup ∧ Tp.wts ts ≤ 600 ∧ Tp.deps ts ≤ 3 ∧ rank (X.g.comps.length - 1) own ts < n ∧
  L.length + (Tp.deps ts + 2) * Tp.wts ts ≤ 40000 ∧ PathOk p ∧ p.length + n ≤ 400 ∧
  ∀ v H', IsT H' (.tup (Nd.toTs (fill X n o c ts p))) v → H' l = some (.lst (L ++ (lkAll n c ts).map V.int)) → Oth [l] H H' → Q v H'
def spMkPage (n : Nat) : Sp := fun vs H Q _ => ∃ (X : Pc) (vp vs' vc vr : V), vs = [vp, vs', vc, vr] ∧ IsT H X.g.toT vp ∧ IsT H (intsT X.st) vs' ∧ IsT H (cellsT X.cs) vc ∧ IsT H (natsT X.pres) vr ∧ X.Good ∧ 3 + 4 * (X.g.comps.length - 1) < n ∧ n ≤ 400 ∧
  ∀ v H', IsT H' (compT X n [] 0 []) v → Oth [] H H' → Q v H'
theorem bo_set : bootBuiltins "set" = some (.type "set") := by decide +kernel
theorem bo_sorted : bootBuiltins "sorted" = some (.builtin "sorted") := by decide +kernel
/-! ### what a component reads -/
theorem asc_eq : ∀ {a b : List Int}, a.Pairwise (· < ·) → b.Pairwise (· < ·) → (∀ x, x ∈ a ↔ x ∈ b) → a = b
  | [], [], _, _, _ => rfl
  | [], y :: b, _, _, h => by have := (h y).mpr (by simp); simp at this
  | x :: a, [], _, _, h => by have := (h x).mp (by simp); simp at this
  | x :: a, y :: b, pa, pb, h => by
    obtain ⟨a1, a2⟩ := List.pairwise_cons.mp pa
    obtain ⟨b1, b2⟩ := List.pairwise_cons.mp pb
    have exy : x = y := by
      rcases List.mem_cons.mp ((h x).mp (by simp)) with e | e
      · exact e
      · rcases List.mem_cons.mp ((h y).mpr (by simp)) with e' | e'
        · exact e'.symm
        · have := b1 x e; have := a1 y e'; omega
    subst exy
    rw [asc_eq a2 b2 fun z => ?_]
    constructor
    · intro hz
      rcases List.mem_cons.mp ((h z).mp (by simp [hz])) with e | e
      · have := a1 z hz; omega
      · exact e
    · intro hz
      rcases List.mem_cons.mp ((h z).mpr (by simp [hz])) with e | e
      · have := b1 z hz; omega
      · exact e
def InR (m : Nat) (l : List Int) : Prop := ∀ k ∈ l, ∃ i : Nat, k = (i : Int) ∧ i < m
theorem InR.app {m : Nat} {a b : List Int} (x : InR m a) (y : InR m b) : InR m (a ++ b) := fun k h => (List.mem_append.mp h).elim (x k) (y k)
theorem InR.nil {m : Nat} : InR m [] := fun k h => nomatch h
theorem InR.flat {α : Type} {m : Nat} {f : α → List Int} {l : List α} (h : ∀ x ∈ l, InR m (f x)) : InR m (l.flatMap f) := fun k hk => by
  obtain ⟨x, hx, hk⟩ := List.mem_flatMap.mp hk
  exact h x hx k hk
theorem looks_in (c : Sc) : ∀ e : E, InR c.store.length (e.looks c)
  | .plus a b | .minus a b | .same a b | .less a b => (looks_in c a).app (looks_in c b)
  | .ite q a b => by
    simp only [E.looks]
    refine (looks_in c q).app ?_
    split
    · exact looks_in c b
    · exact looks_in c a
  | .store i => by
    simp only [E.looks]
    split
    · intro k hk; exact ⟨i, List.mem_singleton.mp hk, ‹_›⟩
    · exact .nil
  | .num _ | .cell _ | .prop _ | .index => .nil
theorem keyLooks_in (c : Sc) (k : Option E) : InR c.store.length (keyLooks c k) := by
  cases k with
  | none => exact .nil
  | some e => exact looks_in c e
mutual
theorem Tp.lk1_in : ∀ (t : Tp) (c : Sc), InR c.store.length (t.lk1 c)
  | .when e cs os, c => by
    simp only [Tp.lk1]
    refine (looks_in c e).app ?_
    split
    · exact Tp.lks_in os c
    · exact Tp.lks_in cs c
  | .each e cs, c => by
    simp only [Tp.lk1]
    exact (looks_in c e).app (.flat fun n _ => Tp.lks_in cs { c with index := (n : Int) })
  | .box _ key _ _, c => keyLooks_in c key
  | .child _ key _, c => keyLooks_in c key
  | .text _, c | .show _, c | .part _, c | .input _ _, c => .nil
theorem Tp.lks_in : ∀ (ts : List Tp) (c : Sc), InR c.store.length (Tp.lks c ts)
  | [], c => .nil
  | t :: ts, c => (Tp.lk1_in t c).app (Tp.lks_in ts c)
end
theorem lkAll_in : ∀ (n : Nat) (c : Sc) (ts : List Tp), InR c.store.length (lkAll n c ts)
  | 0, c, ts => .nil
  | n + 1, c, ts => by
    simp only [lkAll]
    refine (Tp.lks_in ts c).app (.flat fun it _ => ?_)
    cases it.2.1 with
    | «show» e => exact looks_in { c with index := it.2.2 } e
    | box _ _ _ cs => exact lkAll_in n { c with index := it.2.2 } cs
    | child _ _ props => exact .flat fun e _ => looks_in { c with index := it.2.2 } e
    | _ => exact .nil
theorem range_asc (m : Nat) : ((List.range m).map Int.ofNat).Pairwise (· < ·) := by
  rw [List.pairwise_map]
  exact List.pairwise_lt_range.imp fun h => Int.ofNat_lt.mpr h
theorem reads_eq {X : Pc} {lk ns : List Int} (h : InR X.st.length lk) (asc : ns.Pairwise (· < ·)) (mem : ∀ k : Int, k ∈ ns ↔ decide (k ∈ lk) = true) : ns = X.reads lk := by
  refine asc_eq asc ?_ fun x => ?_
  · unfold Pc.reads
    exact (range_asc _).sublist ((List.filter_sublist).map _)
  · rw [mem, decide_eq_true_iff]
    unfold Pc.reads
    rw [List.mem_map]
    constructor
    · intro hx
      obtain ⟨i, rfl, hi⟩ := h x hx
      exact ⟨i, List.mem_filter.mpr ⟨List.mem_range.mpr hi, decide_eq_true hx⟩, rfl⟩
    · rintro ⟨i, hi, rfl⟩
      exact of_decide_eq_true (List.mem_filter.mp hi).2
end Pw
namespace Pw
open PySem PySem.Spec PyProof.Rows L2
theorem Room.u20 {k : Nat} {A : Around} (hr : Room k A) : A.units + 20 < cLine := by have := Room.units65 hr; omega
theorem lkp_hd {f : Str} {v : V} {r : List (Str × V)} : List.lookup f ((f, v) :: r) = some v := by
  simp only [List.lookup, beq_self_eq_true]
theorem lkp_tl {f g : Str} {v : V} {r : List (Str × V)} (h : ¬ g = f) : List.lookup g ((f, v) :: r) = List.lookup g r := by
  have hb : (g == f) = false := beq_eq_false_iff_ne.mpr h
  simp only [List.lookup, hb]
theorem lkp_nil {g : Str} : List.lookup g ([] : List (Str × V)) = none := rfl
theorem putF_nil {f : Str} {v : V} : putF f v [] = [(f, v)] := rfl
theorem putF_hd {f : Str} {v x : V} {r : List (Str × V)} : putF f v ((f, x) :: r) = (f, v) :: r := by
  show (if f = f then (f, v) :: r else (f, x) :: putF f v r) = _
  rw [if_pos rfl]
theorem putF_tl {f g : Str} {v x : V} {r : List (Str × V)} (h : ¬ g = f) : putF f v ((g, x) :: r) = (g, x) :: putF f v r := by
  show (if g = f then (g, v) :: r else (g, x) :: putF f v r) = _
  rw [if_neg h]
/-- an object is written over -/
theorem Oth.ins {S : List Addr} {H : Hp} {b C dx : Addr} {fs : List (Str × V)} {o : HO} (hb : b ∈ S) (h : H b = some (.ins C dx fs)) : Oth S H (upd H b o) :=
  ⟨fun a o' n q => by rw [upd_ne (fun e => n (by rw [e]; exact hb))]; exact q, fun a xs q => by rw [upd_ne (ne_of q h (by intro z; cases z))]; exact q⟩
/-- data written out -/
def tLit (t : T) : TE := fun _ H Q => ∀ v H', IsT H' t v → Oth [] H H' → Q v H'
def tLits (ts : List T) : TA := fun _ H Q => ∀ vs H', Paired (IsT H') ts vs → Oth [] H H' → Q vs H'
section
variable {X : Cx} {pos : Pos} {es : List Expr} {e : Expr} {ts : List T} {t : T}
theorem PE.of {X : Cx} {e : Expr} {t u : TE} (h : PE X e t) (i : ∀ σ H Q, u σ H Q → t σ H Q) : PE X e u := ⟨fun pins s σ H Q I z => h.run pins s σ H Q I (i σ H Q z)⟩
theorem PA.of {X : Cx} {e : List Expr} {t u : TA} (h : PA X e t) (i : ∀ σ H Q, u σ H Q → t σ H Q) : PA X e u := ⟨fun p pins s σ H Q I z => h.run p pins s σ H Q I (i σ H Q z)⟩
theorem pl_nil : PA X [] (tLits []) := PA.of pa_nil fun σ H Q h => h [] H .nil Oth.refl
theorem pl_cons (h : PE X e (tLit t)) (hs : PA X es (tLits ts)) (st : starEach (e :: es) X.env = (false, eval e X.env) :: starEach es X.env := by rfl) : PA X (e :: es) (tLits (t :: ts)) :=
  PA.of (pa_cons h hs st) fun σ H Q q v H1 tv o1 vs H2 tvs o2 => q (v :: vs) H2 (.cons (tv.oth o2) tvs) (o1.trans o2)
theorem pl_tup {x1} (h : PA X es (tLits ts)) (z : ts.length ≤ 1000) : PE X (.Tuple es x1 pos) (tLit (.tup ts)) :=
  PE.of (pe_tup h) fun σ H Q q vs H1 tvs o1 => ⟨Nat.le_trans (by rw [(paired_get tvs).1]; exact z : vs.length ≤ 1000) (by decide), fun p hp => q _ _ (.mk upd_same (paired_oth tvs (Oth.new (S := []) hp))) (o1.trans (Oth.new hp))⟩
theorem pl_int {i : Int} {j} : PE X (.Constant (.int i) j pos) (tLit (.int i)) := PE.of pe_int fun σ H Q q => q _ _ (.int i) Oth.refl
theorem pl_str {x : Str} {j} : PE X (.Constant (.str x) j pos) (tLit (.str x)) := PE.of pe_str fun σ H Q q => q _ _ (.str x) Oth.refl
theorem pe_fldK {K : PySem.W.Frag} {f : Str} {ta : TE} (hK : X.K = K) (he : PE X e ta) (hb : attributeBase e f X.env (eval e X.env) = eval e X.env) : PE X (.Attribute e f pos) (tFld K ta f) := by subst hK; exact pe_fld he hb
end
end Pw
namespace Pw
open PySem PySem.Spec PyProof.Rows L2
inductive Sn where
  | text (k : Nat) (s : Str) | input (k : Nat) (v : Int) | box (k : Nat) (t : Str) (ns : List Sn)
def Sn.num : Sn → Nat
  | .text k _ => k
  | .input k _ => k
  | .box k _ _ => k
mutual
def Sn.toT : Sn → T
  | .text k s => .tup [.str "text", .int k, .str s]
  | .input k v => .tup [.str "input", .int k, .str "q", .int v]
  | .box k t ns => .tup [.str "box", .int k, .str t, .tup (Sn.toTs ns)]
def Sn.toTs : List Sn → List T
  | [] => []
  | n :: r => n.toT :: Sn.toTs r
end
theorem Sn.toTs_map : ∀ ns, Sn.toTs ns = ns.map Sn.toT
  | [] => rfl
  | n :: r => by rw [Sn.toTs, List.map_cons, Sn.toTs_map r]
/-- the key of a box, none: the top -/
abbrev Key0 := Option Nat
def k0V : Key0 → V
  | none => .non
  | some k => .int k
def k0T : Key0 → T
  | none => .non
  | some k => .int k
def k0L : Key0 → Leaf
  | none => .none
  | some k => .num k
theorem k0V_lf (p : Key0) : k0V p = lfV (k0L p) := by cases p <;> rfl
theorem k0T_is {H : Hp} (p : Key0) : IsT H (k0T p) (k0V p) := by
  cases p with
  | none => exact .non
  | some k => exact .int _
theorem k0T_inv {H : Hp} {p : Key0} {v : V} (h : IsT H (k0T p) v) : v = k0V p := by
  cases p with
  | none => cases h; rfl
  | some k => cases h; rfl
theorem k0L_inj {p q : Key0} (h : k0L p = k0L q) : p = q := by
  cases p with
  | none => cases q with
    | none => rfl
    | some b => cases h
  | some a => cases q with
    | none => cases h
    | some b =>
      have e : ((a : Nat) : Int) = (b : Nat) := by injection h
      rw [show a = b by omega]
mutual
def Sn.lst1 (p : Key0) : Sn → List (Key0 × Sn)
  | .text k s => [(p, .text k s)]
  | .input k v => [(p, .input k v)]
  | .box k t ns => (p, .box k t ns) :: Sn.lst (some k) ns
def Sn.lst (p : Key0) : List Sn → List (Key0 × Sn)
  | [] => []
  | n :: r => n.lst1 p ++ Sn.lst p r
end
def Sn.kids : Sn → List Sn
  | .box _ _ ns => ns
  | _ => []
def Sn.isB : Sn → Bool
  | .box _ _ _ => true
  | _ => false
theorem Sn.lst_app (p : Key0) : ∀ a b, Sn.lst p (a ++ b) = Sn.lst p a ++ Sn.lst p b
  | [], b => rfl
  | n :: r, b => by rw [List.cons_append, Sn.lst, Sn.lst, Sn.lst_app p r b, List.append_assoc]
mutual
def Sn.ht : Sn → Nat
  | .text _ _ => 0
  | .input _ _ => 0
  | .box _ _ ns => Sn.hts ns + 1
def Sn.hts : List Sn → Nat
  | [] => 0
  | n :: r => max n.ht (Sn.hts r)
end
theorem Sn.hts_mem : ∀ {ns : List Sn} {n : Sn}, n ∈ ns → n.ht ≤ Sn.hts ns
  | m :: r, n, h => by
    rw [Sn.hts]
    rcases List.mem_cons.mp h with rfl | h
    · omega
    · have := Sn.hts_mem h; omega
/-- all nodes -/
def Sn.all (ns : List Sn) : List Sn := (Sn.lst none ns).map (·.2)
mutual
theorem Sn.lst1_snd (p q : Key0) : ∀ n : Sn, (n.lst1 p).map (·.2) = (n.lst1 q).map (·.2)
  | .text _ _ => rfl
  | .input _ _ => rfl
  | .box _ _ _ => rfl
theorem Sn.lst_snd (p q : Key0) : ∀ ns : List Sn, (Sn.lst p ns).map (·.2) = (Sn.lst q ns).map (·.2)
  | [] => rfl
  | n :: r => by rw [Sn.lst, Sn.lst, List.map_append, List.map_append, Sn.lst1_snd p q n, Sn.lst_snd p q r]
end
theorem Sn.all_cons (n : Sn) (r : List Sn) : Sn.all (n :: r) = n :: Sn.all n.kids ++ Sn.all r := by
  unfold Sn.all
  rw [Sn.lst, List.map_append]
  congr 1
  cases n with
  | text _ _ => rfl
  | input _ _ => rfl
  | box k t ns =>
    show (Sn.box k t ns) :: (Sn.lst (some k) ns).map (·.2) = _
    rw [Sn.lst_snd (some k) none]
    rfl
theorem Sn.all_app (a b : List Sn) : Sn.all (a ++ b) = Sn.all a ++ Sn.all b := by
  unfold Sn.all
  rw [Sn.lst_app, List.map_append]
/-- the top and the boxes with what is in them -/
def Sn.fams (ns : List Sn) : List (Key0 × List Sn) := (none, ns) :: ((Sn.all ns).filter Sn.isB).map fun n => (some n.num, n.kids)
def nums (ns : List Sn) : List Nat := ns.map Sn.num
def intL (l : List Nat) : List V := l.map fun n : Nat => V.int ((n : Nat) : Int)
theorem intL_len (l : List Nat) : (intL l).length = l.length := by unfold intL; exact List.length_map _
theorem intL_get {l : List Nat} {i : Nat} {x : V} (h : (intL l)[i]? = some x) : ∃ n, l[i]? = some n ∧ x = .int (n : Int) := by
  unfold intL at h
  rw [List.getElem?_map] at h
  cases e : l[i]? with
  | none => rw [e] at h; cases h
  | some n => rw [e] at h; cases h; exact ⟨n, rfl, rfl⟩
/-! ### the last value of a key -/
def lastV {α : Type} : List (Key0 × α) → Key0 → Option α
  | [], _ => none
  | (j, x) :: l, k => match lastV l k with
    | some y => some y
    | none => if j = k then some x else none
theorem lastV_snoc {α : Type} : ∀ (l : List (Key0 × α)) (j : Key0) (x : α) (k : Key0), lastV (l ++ [(j, x)]) k = if j = k then some x else lastV l k
  | [], j, x, k => rfl
  | (i, y) :: l, j, x, k => by
    show (match lastV (l ++ [(j, x)]) k with | some y => some y | none => if i = k then some y else none) = _
    rw [lastV_snoc l j x k]
    by_cases h : j = k
    · rw [if_pos h, if_pos h]
    · rw [if_neg h, if_neg h]; rfl
theorem lastV_none {α : Type} : ∀ {l : List (Key0 × α)} {k : Key0}, (∀ q ∈ l, q.1 ≠ k) → lastV l k = none
  | [], _, _ => rfl
  | (j, x) :: l, k, h => by
    show (match lastV l k with | some y => some y | none => if j = k then some x else none) = none
    rw [lastV_none fun q hq => h q (List.mem_cons_of_mem _ hq)]
    exact if_neg (h (j, x) List.mem_cons_self)
theorem lastV_mem {α : Type} : ∀ {l : List (Key0 × α)} {k : Key0} {x : α}, lastV l k = some x → (k, x) ∈ l
  | (j, y) :: l, k, x, h => by
    have h : (match lastV l k with | some y => some y | none => if j = k then some y else none) = some x := h
    cases e : lastV l k with
    | some z => rw [e] at h; cases h; exact List.mem_cons_of_mem _ (lastV_mem e)
    | none =>
      rw [e] at h
      by_cases c : j = k
      · rw [if_pos c] at h; cases h; rw [c]; exact List.mem_cons_self
      · rw [if_neg c] at h; cases h
theorem lastV_some {α : Type} : ∀ {l : List (Key0 × α)} {k : Key0} {x : α}, (l.map (·.1)).Nodup → (k, x) ∈ l → lastV l k = some x
  | (j, y) :: l, k, x, nd, h => by
    rw [List.map_cons] at nd
    obtain ⟨n1, n2⟩ := List.nodup_cons.mp nd
    show (match lastV l k with | some y => some y | none => if j = k then some y else none) = some x
    rcases List.mem_cons.mp h with e | h
    · cases e
      rw [lastV_none fun q hq e => n1 (List.mem_map.mpr ⟨q, hq, e⟩)]
      exact if_pos rfl
    · rw [lastV_some n2 h]
/-- a dict -/
def DicL (P : Program) (w : World) (H : Hp) (a : Addr) {α : Type} (R : α → V → Prop) (l : List (Key0 × α)) : Prop :=
  ∃ kvs, DL P w H a kvs ∧ kvs.length ≤ l.length ∧ ∀ k, match lastV l k with
    | none => valV kvs (k0L k) = none
    | some x => ∃ v, valV kvs (k0L k) = some v ∧ R x v
section
variable {P : Program} {w : World} {H H' : Hp} {a : Addr} {α : Type} {R R' : α → V → Prop} {l : List (Key0 × α)} {S : List Addr}
theorem DicL.oth (h : DicL P w H a R l) (o : Oth S H H') (n : a ∉ S) : DicL P w H' a R l := by
  obtain ⟨kvs, d, r⟩ := h
  exact ⟨kvs, d.oth o n, r⟩
theorem DicL.imp (h : DicL P w H a R l) (f : ∀ x v, R x v → R' x v) : DicL P w H a R' l := by
  obtain ⟨kvs, d, n, r⟩ := h
  refine ⟨kvs, d, n, fun k => ?_⟩
  have := r k
  revert this
  cases lastV l k with
  | none => exact id
  | some x => exact fun ⟨v, e, q⟩ => ⟨v, e, f _ _ q⟩
theorem DicL.nil (d : DL P w H a []) : DicL P w H a R [] := ⟨[], d, Nat.le_refl _, fun k => rfl⟩
theorem DicL.ne {b : Addr} (h : DicL P w H a R l) (n : H b = none) : a ≠ b := by
  obtain ⟨kvs, d, _⟩ := h
  exact d.ne n
/-- one value more -/
theorem DicL.put {j : Key0} {x : α} {v : V} {Q : Hp → Prop} (h : DicL P w H a R l) (hl : l.length < sizeLine) (r : R x v) (q : ∀ H', Oth [a] H H' → DicL P w H' a R (l ++ [(j, x)]) → Q H') :
    rSetL P w (.ref a) (k0V j) v H Q := by
  obtain ⟨kvs, d, n, rr⟩ := h
  refine ⟨a, k0L j, kvs, rfl, k0V_lf j, d, Nat.lt_of_le_of_lt n hl, fun H' o d' => q H' o ⟨_, d', ?_, fun k => ?_⟩⟩
  · have := length_putK kvs (k0L j) v
    rw [List.length_append, List.length_singleton]; omega
  · rw [lastV_snoc, valV_put]
    by_cases e : j = k
    · subst e
      rw [if_pos rfl, if_pos rfl]
      exact ⟨v, rfl, r⟩
    · rw [if_neg e, if_neg fun z => e (k0L_inj z).symm]
      exact rr k
theorem DicL.inD (h : DicL P w H a R l) (k : Key0) (neg : Bool) {Q : VK} (q : Q (.bl (if neg then !(lastV l k).isSome else (lastV l k).isSome)) H) : rInL P w neg (k0V k) (.ref a) H Q := by
  obtain ⟨kvs, d, n, r⟩ := h
  refine ⟨a, k0L k, kvs, k0V_lf k, rfl, d, ?_⟩
  have := r k
  have e : (valV kvs (k0L k)).isSome = (lastV l k).isSome := by
    revert this
    cases lastV l k with
    | none => intro e; rw [e]; rfl
    | some x => intro ⟨v, e, _⟩; rw [e]; rfl
  rw [e]
  exact q
theorem DicL.at (h : DicL P w H a R l) {k : Key0} {x : α} (e : lastV l k = some x) {Q : VK} (q : ∀ v, R x v → Q v H) : rIxD P w (.ref a) (k0V k) H Q := by
  obtain ⟨kvs, d, n, r⟩ := h
  have := r k
  rw [e] at this
  obtain ⟨v, e', rv⟩ := this
  exact ⟨a, k0L k, kvs, v, k0V_lf k, rfl, d, e', q v rv⟩
end
/-! ### what stays -/
def pos0 (earlier : List Nat) (n : Nat) : Nat := earlier.idxOf n
def common (earlier later : List Nat) : List Nat := later.filter fun n => decide (n ∈ earlier)
def places (earlier later : List Nat) : List Int := (common earlier later).map fun n => ((pos0 earlier n : Nat) : Int)
def stay (earlier later : List Nat) : List Nat := (gr 0 (-1) (places earlier later) (lens (places earlier later)) (top (lens (places earlier later)))).map fun k => (common earlier later).getD k 0
/-- the numbers that are picked, with the places told -/
def grN (f : Nat → Int) : Int → List Nat → List Nat → Nat → List Nat
  | pl, n :: ns, l :: ls, left => if l = left ∧ pl < f n then n :: grN f (f n) ns ls (left - 1) else grN f pl ns ls left
  | _, _, _, _ => []
theorem grN_is (f : Nat → Int) : ∀ (ns : List Nat) (pre : List Nat) (pl : Int) (ls : List Nat) (left : Nat),
    grN f pl ns ls left = (gr pre.length pl (ns.map f) ls left).map fun k => (pre ++ ns).getD k 0
  | [], pre, pl, ls, left => by simp [grN, gr]
  | n :: ns, pre, pl, [], left => by simp [grN, gr]
  | n :: ns, pre, pl, l :: ls, left => by
    have e : pre ++ n :: ns = (pre ++ [n]) ++ ns := by simp
    have el : (pre ++ [n]).length = pre.length + 1 := by simp
    rw [grN, List.map_cons, gr]
    by_cases c : l = left ∧ pl < f n
    · rw [if_pos c, if_pos c, List.map_cons, grN_is f ns (pre ++ [n]) (f n) ls (left - 1), el, e]
      congr 1
      rw [← e, List.getD_eq_getElem?_getD, List.getElem?_append_right (Nat.le_refl _), Nat.sub_self]
      rfl
    · rw [if_neg c, if_neg c, grN_is f ns (pre ++ [n]) pl ls left, el, e]
theorem stay_grN (earlier later : List Nat) : stay earlier later = grN (fun n => ((pos0 earlier n : Nat) : Int)) (-1) (common earlier later) (lens (places earlier later)) (top (lens (places earlier later))) := by
  rw [grN_is _ _ []]
  rfl
/-- the walk that finds them: what is found, the place, what is left -/
def grStep (f : Nat → Int) (s : List Nat × Int × Int) (q : Nat × Nat) : List Nat × Int × Int :=
  if (q.2 : Int) = s.2.2 ∧ s.2.1 < f q.1 then (s.1 ++ [q.1], f q.1, s.2.2 - 1) else s
theorem grN_fold (f : Nat → Int) : ∀ (ns ls : List Nat) (out : List Nat) (pl : Int) (left : Nat), (∀ l ∈ ls, 1 ≤ l) →
    ((ns.zip ls).foldl (grStep f) (out, pl, (left : Int))).1 = out ++ grN f pl ns ls left
  | [], ls, out, pl, left, _ => by simp [grN]
  | n :: ns, [], out, pl, left, _ => by simp [grN]
  | n :: ns, l :: ls, out, pl, left, h => by
    have h1 := h l List.mem_cons_self
    have h' : ∀ x ∈ ls, 1 ≤ x := fun x hx => h x (List.mem_cons_of_mem _ hx)
    rw [List.zip_cons_cons, List.foldl_cons, grN]
    by_cases c : l = left ∧ pl < f n
    · rw [if_pos c]
      have e : grStep f (out, pl, (left : Int)) (n, l) = (out ++ [n], f n, ((left - 1 : Nat) : Int)) := by
        unfold grStep
        rw [if_pos ⟨by rw [c.1], c.2⟩]
        have : ((left : Int) - 1) = ((left - 1 : Nat) : Int) := by omega
        simp only [this]
      rw [e, grN_fold f ns ls _ _ _ h', List.append_assoc]
      rfl
    · rw [if_neg c]
      have e : grStep f (out, pl, (left : Int)) (n, l) = (out, pl, (left : Int)) := by
        unfold grStep
        rw [if_neg fun z => c ⟨by have := z.1; simp only at this; omega, z.2⟩]
      rw [e, grN_fold f ns ls _ _ _ h']
theorem grN_sub (f : Nat → Int) : ∀ (ns : List Nat) (pl : Int) (ls : List Nat) (left : Nat), (grN f pl ns ls left).Sublist ns
  | [], pl, ls, left => by simp [grN]
  | n :: ns, pl, [], left => by simp [grN]
  | n :: ns, pl, l :: ls, left => by
    rw [grN]
    split
    · exact (grN_sub f ns _ ls _).cons₂ n
    · exact (grN_sub f ns _ ls _).cons n
theorem stay_sub (earlier later : List Nat) : (stay earlier later).Sublist later := by
  rw [stay_grN]
  exact (grN_sub _ _ _ _ _).trans List.filter_sublist
end Pw
namespace Pw
open PySem PySem.Spec PyProof.Rows L2
section
variable {α β : Type} {F G : α → β → Prop}
theorem pget : ∀ {ts : List α} {us : List β}, Paired F ts us → us.length = ts.length ∧ ∀ (i : Nat) (t : α) (x : β), ts[i]? = some t → us[i]? = some x → F t x
  | _, _, .nil => ⟨rfl, fun i t x e => by simp at e⟩
  | _, _, .cons r q => by
    obtain ⟨l, h⟩ := pget q
    refine ⟨congrArg (· + 1) l, fun i t x e1 e2 => ?_⟩
    cases i with
    | zero => cases e1; cases e2; exact r
    | succ i => exact h i t x e1 e2
theorem pimp : ∀ {ts : List α} {us : List β}, Paired F ts us → (∀ t x, F t x → G t x) → Paired G ts us
  | _, _, .nil, _ => .nil
  | _, _, .cons r q, h => .cons (h _ _ r) (pimp q h)
theorem pmem {ts : List α} {us : List β} (p : Paired F ts us) {i : Nat} {x : β} (h : us[i]? = some x) : ∃ t, ts[i]? = some t ∧ F t x := by
  obtain ⟨l, g⟩ := pget p
  have hi : i < ts.length := by rw [← l]; exact (List.getElem?_eq_some_iff.mp h).1
  exact ⟨ts[i], List.getElem?_eq_getElem hi, g i _ _ (List.getElem?_eq_getElem hi) h⟩
end
/-- what _listed gives for a node -/
def itT (q : Key0 × Sn) : T := .tup [k0T q.1, q.2.toT]
/-- a list of numbers -/
def LI (H : Hp) (l : List Nat) (v : V) : Prop := ∃ a, v = .ref a ∧ H a = some (.lst (intL l))
theorem LI.oth {H H' : Hp} {l : List Nat} {v : V} (h : LI H l v) (o : Oth [] H H') : LI H' l v := by
  obtain ⟨a, e, h⟩ := h
  exact ⟨a, e, o.keep a _ (by simp) h⟩
/-- a key and a list of numbers, in a tuple, the list not there in H0 -/
def FamR (H0 H : Hp) (f : Key0 × List Nat) (v : V) : Prop := ∃ t l, v = .ref t ∧ H t = some (.tup [k0V f.1, .ref l]) ∧ H l = some (.lst (intL f.2)) ∧ H0 l = none
theorem FamR.oth {H0 H H' : Hp} {f : Key0 × List Nat} {v : V} (h : FamR H0 H f v) (o : Oth [] H H') : FamR H0 H' f v := by
  obtain ⟨t, l, e, h, g, n⟩ := h
  exact ⟨t, l, e, o.tup _ _ h, o.keep l _ (by simp) g, n⟩
def famN (ns : List Sn) : List (Key0 × List Nat) := (Sn.fams ns).map fun f => (f.1, nums f.2)
theorem Sn.all_len (p : Key0) (ns : List Sn) : (Sn.lst p ns).length = (Sn.all ns).length := by
  unfold Sn.all
  rw [List.length_map, ← List.length_map (·.2), Sn.lst_snd p none, List.length_map]
theorem Sn.len_all : ∀ ns : List Sn, ns.length ≤ (Sn.all ns).length
  | [] => Nat.zero_le _
  | n :: r => by
    have := Sn.len_all r
    rw [Sn.all_cons, List.cons_append, List.length_cons, List.length_cons, List.length_append]; omega
theorem Sn.kids_len : ∀ {ns : List Sn} {n : Sn}, n ∈ ns → (Sn.all n.kids).length ≤ (Sn.all ns).length
  | m :: r, n, h => by
    rw [Sn.all_cons, List.cons_append, List.length_cons, List.length_append]
    rcases List.mem_cons.mp h with rfl | h
    · omega
    · have := Sn.kids_len h; omega
theorem Sn.kids_sub : ∀ {k : Nat} {ns : List Sn} {n : Sn}, (Sn.all ns).length ≤ k → n ∈ Sn.all ns → (Sn.all n.kids).length < (Sn.all ns).length
  | 0, ns, n, hk, h => by
    rw [List.eq_nil_of_length_eq_zero (Nat.le_zero.mp hk)] at h; cases h
  | k + 1, [], n, _, h => nomatch h
  | k + 1, m :: r, n, hk, h => by
    rw [Sn.all_cons, List.cons_append, List.length_cons, List.length_append] at hk ⊢
    rw [Sn.all_cons] at h
    rcases List.mem_append.mp h with h | h
    · rcases List.mem_cons.mp h with rfl | h
      · omega
      · have := Sn.kids_sub (k := k) (by omega) h; omega
    · have := Sn.kids_sub (k := k) (by omega) h; omega
theorem fams_len {ns : List Sn} {f : Key0 × List Sn} (h : f ∈ Sn.fams ns) : f.2.length ≤ (Sn.all ns).length := by
  rcases List.mem_cons.mp h with rfl | h
  · exact Sn.len_all _
  · obtain ⟨n, hn, rfl⟩ := List.mem_map.mp h
    have := Sn.kids_sub (Nat.le_refl _) (List.mem_filter.mp hn).1
    have := Sn.len_all n.kids
    show n.kids.length ≤ _
    omega
theorem famN_len {ns : List Sn} {f : Key0 × List Nat} (h : f ∈ famN ns) : f.2.length ≤ (Sn.all ns).length := by
  obtain ⟨g, hg, rfl⟩ := List.mem_map.mp h
  have := fams_len hg
  show (nums g.2).length ≤ _
  unfold nums
  rw [List.length_map]; exact this
theorem famN_many (ns : List Sn) : (famN ns).length ≤ (Sn.all ns).length + 1 := by
  unfold famN Sn.fams
  rw [List.length_map, List.length_cons, List.length_map]
  have := List.length_filter_le Sn.isB (Sn.all ns)
  omega
theorem sn_num {H : Hp} {n : Sn} {x : V} (h : IsT H n.toT x) : ∃ b y ys, x = .ref b ∧ H b = some (.tup (y :: .int (n.num : Int) :: ys)) ∧ atI (y :: .int (n.num : Int) :: ys) 1 = some (.int (n.num : Int)) := by
  cases n with
  | text k s =>
    obtain ⟨b, v0, v1, v2, rfl, eb, p0, p1, p2⟩ := IsT.inv3 h
    obtain rfl := p1.of_int
    exact ⟨b, _, _, rfl, eb, at1⟩
  | input k s =>
    obtain ⟨b, v0, v1, v2, v3, rfl, eb, p0, p1, p2, p3⟩ := IsT.inv4 h
    obtain rfl := p1.of_int
    exact ⟨b, _, _, rfl, eb, at1⟩
  | box k s ns =>
    obtain ⟨b, v0, v1, v2, v3, rfl, eb, p0, p1, p2, p3⟩ := IsT.inv4 h
    obtain rfl := p1.of_int
    exact ⟨b, _, _, rfl, eb, at1⟩
/-- the same, the list another one than p -/
def FamP (p : Addr) (H0 H : Hp) (f : Key0 × List Nat) (v : V) : Prop := ∃ t l, v = .ref t ∧ H t = some (.tup [k0V f.1, .ref l]) ∧ H l = some (.lst (intL f.2)) ∧ l ≠ p ∧ H0 l = none
theorem FamP.oth {p : Addr} {H0 H H' : Hp} {f : Key0 × List Nat} {v : V} (h : FamP p H0 H f v) (o : Oth [p] H H') : FamP p H0 H' f v := by
  obtain ⟨t, l, e, h, g, n, z⟩ := h
  exact ⟨t, l, e, o.tup _ _ h, o.keep l _ (by simp [n]) g, n, z⟩
theorem FamP.fam {p : Addr} {H0 H : Hp} {f : Key0 × List Nat} {v : V} (h : FamP p H0 H f v) : FamR H0 H f v := by
  obtain ⟨t, l, e, h, g, n, z⟩ := h
  exact ⟨t, _, e, h, g, z⟩
theorem ixN_at {n j : Nat} (h : j < n) : ixN n (j : Int) = some j := by
  unfold ixN
  rw [if_pos (by omega), if_pos (by omega)]
  congr
/-- places of numbers -/
def enumK (e : List Nat) (i : Nat) : List (Key0 × Nat) := (List.range i).map fun j => (some (e.getD j 0), j)
theorem enumK_snoc {e : List Nat} {i n : Nat} (h : e[i]? = some n) : enumK e (i + 1) = enumK e i ++ [(some n, i)] := by
  unfold enumK
  rw [List.range_succ, List.map_append, List.map_singleton, List.getD_eq_getElem?_getD, h]
  rfl
theorem enumK_keys (e : List Nat) : (enumK e e.length).map (·.1) = e.map some := by
  refine List.ext_getElem? fun i => ?_
  unfold enumK
  rw [List.map_map, List.getElem?_map, List.getElem?_map]
  by_cases h : i < e.length
  · rw [List.getElem?_range h, List.getElem?_eq_getElem h]
    simp [List.getD_eq_getElem?_getD, List.getElem?_eq_getElem h]
  · rw [List.getElem?_eq_none (by simpa using h), List.getElem?_eq_none (by omega)]
    rfl
theorem enumK_at {e : List Nat} (nd : e.Nodup) {n : Nat} (h : n ∈ e) : lastV (enumK e e.length) (some n) = some (pos0 e n) := by
  refine lastV_some ?_ ?_
  · rw [enumK_keys]
    exact List.Pairwise.map some (fun a b h z => h (Option.some.inj z)) nd
  · have hi : e.idxOf n < e.length := List.idxOf_lt_length_of_mem h
    refine List.mem_map.mpr ⟨e.idxOf n, List.mem_range.mpr hi, ?_⟩
    rw [List.getD_eq_getElem?_getD, List.getElem?_eq_getElem hi, Option.getD_some, List.getElem_idxOf]
    rfl
theorem enumK_not {e : List Nat} {n : Nat} (h : n ∉ e) : lastV (enumK e e.length) (some n) = none := by
  refine lastV_none fun q hq z => h ?_
  have : q.1 ∈ (enumK e e.length).map (·.1) := List.mem_map.mpr ⟨q, hq, rfl⟩
  rw [enumK_keys, z] at this
  obtain ⟨m, hm, e'⟩ := List.mem_map.mp this
  rw [← Option.some.inj e']; exact hm
def intI (l : List Nat) : List Int := l.map fun n : Nat => ((n : Nat) : Int)
theorem intL_I (l : List Nat) : intL l = (intI l).map V.int := by unfold intL intI; rw [List.map_map]; rfl
theorem foldl_top : ∀ (l : List Nat) (m : Nat), (intI l).foldl max ((m : Nat) : Int) = ((max m (top l) : Nat) : Int)
  | [], m => by show ((m : Nat) : Int) = ((max m 0 : Nat) : Int); simp
  | n :: l, m => by
    show (intI l).foldl max (max ((m : Nat) : Int) ((n : Nat) : Int)) = ((max m (max n (top l)) : Nat) : Int)
    have : max ((m : Nat) : Int) ((n : Nat) : Int) = ((max m n : Nat) : Int) := by omega
    rw [this, foldl_top l]
    omega
theorem top_I (l : List Nat) : maxO 0 (intI l) = ((top l : Nat) : Int) := by
  cases l with
  | nil => rfl
  | cons n l =>
    show (intI l).foldl max ((n : Nat) : Int) = _
    rw [foldl_top]
    rfl
theorem back {S : List Addr} {H H' : Hp} {a : Addr} (o : Oth S H H') (h : H' a = none) (n : a ∉ S) : H a = none := by
  cases e : H a with
  | none => rfl
  | some z => rw [o.keep a _ n e] at h; cases h
theorem inV_intL (n : Nat) (l : List Nat) : inV (V.int ((n : Nat) : Int)) (intL l) = decide (n ∈ l) := inVn n l
theorem flat_intL (l : List Nat) : (intL l).all flatV = true := by
  unfold intL
  rw [List.all_map]
  exact List.all_eq_true.mpr fun x _ => rfl
/-! ### promises -/
def spListed (n : Nat) : Sp := fun vs H Q _ => ∃ (ns : List Sn) (p : Key0) (v : V), vs = [v, k0V p] ∧ IsT H (.tup (Sn.toTs ns)) v ∧ Sn.hts ns < n ∧ (Sn.all ns).length ≤ 1000 ∧
  ∀ r us H', H r = none → H' r = some (.lst us) → Paired (IsT H') ((Sn.lst p ns).map itT) us → Oth [] H H' → Q (.ref r) H'
def spRows (n : Nat) : Sp := fun vs H Q _ => ∃ (ns : List Sn) (v : V), vs = [v] ∧ IsT H (.tup (Sn.toTs ns)) v ∧ Sn.hts ns < n ∧ (Sn.all ns).length ≤ 1000 ∧
  ∀ r us H', H r = none → H' r = some (.lst us) → Paired (FamR H H') (famN ns) us → Oth [] H H' → Q (.ref r) H'
def spLengths : Sp := fun vs H Q _ => ∃ (ps : List Int) (a : Addr), vs = [.ref a] ∧ H a = some (.lst (ps.map V.int)) ∧ ps.length ≤ 1000 ∧
  ∀ r H', H r = none → H' r = some (.lst (intL (lens ps))) → Oth [] H H' → Q (.ref r) H'
def spStaying : Sp := fun vs H Q _ => ∃ (e l : List Nat) (a b : Addr), vs = [.ref a, .ref b] ∧ H a = some (.lst (intL e)) ∧ H b = some (.lst (intL l)) ∧ e.Nodup ∧ e.length ≤ 1000 ∧ l.length ≤ 1000 ∧
  ∀ r H', H r = none → H' r = some (.lst (intL (stay e l))) → Oth [] H H' → Q (.ref r) H'
/-! ### the fewest puts -/
def earlierOf (before : List Sn) (p : Key0) : List Nat := (lastV (famN before) p).getD []
def fewMany (before : List Sn) (fs : List (Key0 × List Nat)) : Int := (fs.map fun f => ((common (earlierOf before f.1) f.2).length : Int) - ((stay (earlierOf before f.1) f.2).length : Int)).sum
def fewRows (before : List Sn) (fs : List (Key0 × List Nat)) : List (Key0 × List Nat) := (fs.map fun f => (f.1, stay (earlierOf before f.1) f.2)).filter fun f => !f.2.isEmpty
def numsT0 (l : List Nat) : T := .tup ((intI l).map T.int)
def famT (f : Key0 × List Nat) : T := .tup [k0T f.1, numsT0 f.2]
def fewT (before after : List Sn) : T := .tup [.int (fewMany before (famN after)), .tup ((fewRows before (famN after)).map famT)]
theorem numsT0_is {H : Hp} {a : Addr} {l : List Nat} (h : H a = some (.tup (intL l))) : IsT H (numsT0 l) (.ref a) := .mk h (by rw [intL_I]; exact int_paired _)
theorem earlierOf_ok {before : List Sn} (h : ∀ f ∈ famN before, f.2.Nodup) (hc : (Sn.all before).length ≤ 1000) (p : Key0) : (earlierOf before p).Nodup ∧ (earlierOf before p).length ≤ 1000 := by
  unfold earlierOf
  cases e : lastV (famN before) p with
  | none => exact ⟨.nil, Nat.zero_le _⟩
  | some l =>
    have m := lastV_mem e
    exact ⟨h _ m, Nat.le_trans (famN_len m) hc⟩
def spFewest (n : Nat) : Sp := fun vs H Q _ => ∃ (b a : List Sn) (v1 v2 : V), vs = [v1, v2] ∧ IsT H (.tup (Sn.toTs b)) v1 ∧ IsT H (.tup (Sn.toTs a)) v2 ∧ Sn.hts b < n ∧ Sn.hts a < n ∧ (Sn.all b).length ≤ 1000 ∧ (Sn.all a).length ≤ 1000 ∧ (∀ f ∈ famN b, f.2.Nodup) ∧
  ∀ r H', IsT H' (fewT b a) r → Oth [] H H' → Q r H'
end Pw
namespace Pw
open PySem PySem.Spec PyProof.Rows L2
/-- for k, v in d.items() while d is locked -/
theorem for_itemsK {d : Addr} {o : Obj} {kvs : List (Key × V)} {g : TG} {tb : TS} {D : Ends} {σ : L2.St} {H : Hp} (Pv : Nat → L2.St → Hp → Prop) (h0 : Pv 0 σ H) (hl : ∀ i σ H, Pv i σ H → H d = some (.frz o (.dK kvs)))
    (hs : ∀ i k v T σ H, kvs[i]? = some (k, v) → Pv i σ H → H T = none → g (.ref T) σ (upd H T (.tup [kV k, v])) fun σ2 H2 => tb { D with nx := Pv (i + 1), ct := Pv (i + 1), bk := D.nx } σ2 H2) (hd : ∀ σ H, Pv kvs.length σ H → D.nx σ H) :
    ∃ W : Nat → Nat → L2.St → Hp → Prop, (∃ m, W 0 m σ H) ∧ ∀ i m σ H, W i m σ H →
      ((Iti d o kvs).stop i H ∧ D.nx σ H) ∨ ((Iti d o kvs).go i H ∧ ∃ N : L2.St → Hp → Prop, (∀ σ' H', N σ' H' → ∃ m', m' < m ∧ W (i + 1) m' σ' H') ∧ ∀ x H', (Iti d o kvs).yld i H x H' → g x σ H' fun σ2 H2 => tb { D with nx := N, ct := N, bk := D.nx } σ2 H2) := by
  refine ⟨fun i m σ H => m + i = kvs.length ∧ Pv i σ H, ⟨kvs.length, rfl, h0⟩, fun i m σ H hW => ?_⟩
  obtain ⟨em, p⟩ := hW
  have e := hl i σ H p
  rcases Nat.lt_or_ge i kvs.length with lt | ge
  · refine .inr ⟨⟨e, lt⟩, Pv (i + 1), fun σ' H' p' => ⟨m - 1, by omega, by omega, p'⟩, fun x H' y => ?_⟩
    obtain ⟨T, k, v, ek, rfl, hT, rfl⟩ := y
    exact hs i k v T σ H ek p hT
  · obtain rfl : i = kvs.length := by omega
    exact .inl ⟨⟨e, Nat.le_refl _⟩, hd σ H p⟩
theorem lastV_there {α : Type} : ∀ {l : List (Key0 × α)} {k : Key0} {x : α}, (k, x) ∈ l → ∃ y, lastV l k = some y
  | (j, y) :: l, k, x, h => by
    cases e : lastV l k with
    | some z =>
      refine ⟨z, ?_⟩
      show (match lastV l k with | some y => some y | none => if j = k then some y else none) = some z
      rw [e]
    | none =>
      rcases List.mem_cons.mp h with e2 | h
      · cases e2
        refine ⟨y, ?_⟩
        show (match lastV l j with | some y => some y | none => if j = j then some y else none) = some y
        rw [e]
        exact if_pos rfl
      · obtain ⟨z, ez⟩ := lastV_there h
        rw [e] at ez; cases ez
theorem stays_in (n : Nat) (st : List Nat) : (lastV (st.map fun n => (some n, true)) (some n)).isSome = decide (n ∈ st) := by
  by_cases h : n ∈ st
  · rw [decide_eq_true h]
    obtain ⟨y, e⟩ := lastV_there (List.mem_map.mpr ⟨n, h, rfl⟩ : ((some n, true) : Key0 × Bool) ∈ st.map fun n => (some n, true))
    rw [e]; rfl
  · rw [decide_eq_false h, lastV_none]
    · rfl
    · intro q hq z
      obtain ⟨m, hm, rfl⟩ := List.mem_map.mp hq
      exact h (by rw [← Option.some.inj z]; exact hm)
/-- for x in reversed(a list) -/
theorem for_revL {K : PySem.W.Frag} {a : Addr} {xs : List V} {g : TG} {tb : TS} {D : Ends} {σ : L2.St} {H : Hp} (Pv : Nat → L2.St → Hp → Prop) (h0 : Pv 0 σ H) (hl : ∀ i σ H, Pv i σ H → SqL K H a xs)
    (hs : ∀ i x σ H, xs.reverse[i]? = some x → Pv i σ H → g x σ H fun σ2 H2 => tb { D with nx := Pv (i + 1), ct := Pv (i + 1), bk := D.nx } σ2 H2) (hd : ∀ σ H, Pv xs.length σ H → D.nx σ H) :
    ∃ W : Nat → Nat → L2.St → Hp → Prop, (∃ m, W 0 m σ H) ∧ ∀ i m σ H, W i m σ H →
      ((Itv K a xs.length).stop i H ∧ D.nx σ H) ∨ ((Itv K a xs.length).go i H ∧ ∃ N : L2.St → Hp → Prop, (∀ σ' H', N σ' H' → ∃ m', m' < m ∧ W (i + 1) m' σ' H') ∧ ∀ x H', (Itv K a xs.length).yld i H x H' → g x σ H' fun σ2 H2 => tb { D with nx := N, ct := N, bk := D.nx } σ2 H2) := by
  refine ⟨fun i m σ H => m + i = xs.length ∧ Pv i σ H, ⟨xs.length, rfl, h0⟩, fun i m σ H hW => ?_⟩
  obtain ⟨em, p⟩ := hW
  have sq := hl i σ H p
  rcases Nat.lt_or_ge i xs.length with lt | ge
  · have e1 : xs[xs.length - 1 - i]? = some xs[xs.length - 1 - i] := List.getElem?_eq_getElem (by omega)
    refine .inr ⟨⟨lt, xs, _, sq, e1⟩, Pv (i + 1), fun σ' H' p' => ⟨m - 1, by omega, by omega, p'⟩, fun x H' y => ?_⟩
    obtain ⟨e, y⟩ := y
    subst e
    have := y xs sq
    exact hs i x σ _ (by rw [List.getElem?_reverse (by omega)]; exact this) p
  · obtain rfl : i = xs.length := by omega
    exact .inl ⟨Nat.le_refl _, hd σ H p⟩
def putsT (p : Key0) (st : List Nat) : List Nat → Key0 → List T
  | [], _ => []
  | n :: r, b => (if n ∈ st then [] else [.tup [.str "put", .int n, k0T p, k0T b]]) ++ putsT p st r (some n)
theorem putsT_take (p : Key0) (st : List Nat) : ∀ (r : List Nat) (b : Key0) (i n : Nat), r[i]? = some n → putsT p st (r.take (i + 1)) b = putsT p st (r.take i) b ++ (if n ∈ st then [] else [.tup [.str "put", .int n, k0T p, k0T (if i = 0 then b else r[i - 1]?)]])
  | [], b, i, n, h => by simp at h
  | m :: r, b, 0, n, h => by
    have h : m = n := by simpa using h
    subst h
    simp [putsT]
  | m :: r, b, i + 1, n, h => by
    have h : r[i]? = some n := by simpa using h
    rw [List.take_succ_cons, putsT, putsT_take p st r (some m) i n h, List.take_succ_cons, putsT, List.append_assoc]
    congr 2
    by_cases hi : i = 0
    · subst hi; simp
    · rw [if_neg hi, if_neg (Nat.succ_ne_zero i)]
      obtain ⟨j, rfl⟩ : ∃ j, i = j + 1 := ⟨i - 1, by omega⟩
      simp
def Sn.bare : Sn → Sn
  | .box k t _ => .box k t []
  | n => n
/-- nodes by their numbers -/
def numK (l : List Sn) : List (Key0 × Sn) := l.map fun n => (some n.num, n)
def takeB (after : List Sn) (q : Key0 × Sn) : Bool := !decide (q.2.num ∈ nums (Sn.all after)) && (match q.1 with | none => true | some k => decide (k ∈ nums (Sn.all after)))
def takeT (before after : List Sn) : List T := ((Sn.lst none before).filter (takeB after)).map fun q => .tup [.str "take", .int q.2.num]
def changeT (o : Option Sn) (n : Sn) : List T := match o with
  | none => [.tup [.str "make", n.bare.toT]]
  | some m => match n, m with
    | .text k s, .text _ s' => if s = s' then [] else [.tup [.str "text", .int k, .str s]]
    | .input k v, .input _ v' => if v = v' then [] else [.tup [.str "value", .int k, .int v]]
    | _, _ => []
def patchT (before after : List Sn) : List T :=
  takeT before after ++ (Sn.all after).flatMap (fun n => changeT (lastV (numK (Sn.all before)) (some n.num)) n) ++
  (famN after).flatMap fun f => putsT f.1 (stay (earlierOf before f.1) f.2) f.2.reverse none
def kind : Sn → Nat
  | .text _ _ => 0
  | .input _ _ => 1
  | .box _ _ _ => 2
theorem changeT_len (o : Option Sn) (n : Sn) : (changeT o n).length ≤ 1 := by
  unfold changeT
  cases o with
  | none => simp
  | some m => cases n <;> cases m <;> simp <;> split <;> simp
theorem putsT_len (p : Key0) (st : List Nat) : ∀ (r : List Nat) (b : Key0), (putsT p st r b).length ≤ r.length
  | [], _ => Nat.le_refl _
  | n :: r, b => by
    have := putsT_len p st r (some n)
    rw [putsT, List.length_append, List.length_cons]
    split <;> simp <;> omega
theorem oth_dk {H : Hp} {L : Addr} {kvs : List (Key × V)} {o : HO} (e : H L = some (.dK kvs)) : Oth [L] H (upd H L o) :=
  ⟨fun c o' n q => by rw [upd_ne (fun z => n (by rw [z]; simp))]; exact q, fun c ys q => by rw [upd_ne (ne_of q e (fun z => nomatch z))]; exact q⟩
theorem oth_frz {H : Hp} {L : Addr} {od : Obj} {u o : HO} (e : H L = some (.frz od u)) : Oth [L] H (upd H L o) :=
  ⟨fun c o' n q => by rw [upd_ne (fun z => n (by rw [z]; simp))]; exact q, fun c ys q => by rw [upd_ne (ne_of q e (fun z => nomatch z))]; exact q⟩
def KvR (H : Hp) (n : Sn) (kv : Key × V) : Prop := kv.1 = .inl (n.num : Int) ∧ IsT H n.toT kv.2
theorem inK {H : Hp} (k : Nat) : ∀ {l : List Sn} {kvs : List (Key × V)}, Paired (KvR H) l kvs → (valV kvs (.inl (k : Int))).isSome = decide (k ∈ nums l)
  | _, _, .nil => rfl
  | n :: l, (a, v) :: kvs, .cons r q => by
    have ih := inK k q
    obtain ⟨e, _⟩ := r
    by_cases h : k = n.num
    · subst h
      rw [valV_pos e]
      simp [nums]
    · have ne : ¬ ((a, v).1 = .inl (k : Int)) := fun z => h (by
        rw [e] at z
        have : ((n.num : Nat) : Int) = (k : Int) := by injection z
        omega)
      rw [valV_neg ne, ih]
      have : (k ∈ nums (n :: l)) ↔ k ∈ nums l := by
        unfold nums
        rw [List.map_cons, List.mem_cons]
        exact ⟨fun z => z.resolve_left h, .inr⟩
      exact decide_eq_decide.mpr this.symm
theorem numK_lst (ns : List Sn) : numK (Sn.all ns) = (Sn.lst none ns).map fun q => (some q.2.num, q.2) := by
  unfold numK Sn.all
  rw [List.map_map]
  rfl
theorem nodup_take {l : List Sn} {i : Nat} {n : Sn} (nd : (nums l).Nodup) (h : l[i]? = some n) (z : n.num ∈ nums (l.take i)) : False := by
  obtain ⟨hi, e⟩ := List.getElem?_eq_some_iff.mp h
  have e1 : nums l = nums (l.take i) ++ nums (l.drop i) := by
    unfold nums
    rw [← List.map_append, List.take_append_drop]
  rw [e1] at nd
  have e2 : n.num ∈ nums (l.drop i) := by
    unfold nums
    rw [List.drop_eq_getElem_cons hi, e, List.map_cons]
    exact List.mem_cons_self
  exact (List.nodup_append.mp nd).2.2 _ z _ e2 rfl
def spBare : Sp := fun vs H Q _ => ∃ (n : Sn) (v : V), vs = [v] ∧ IsT H n.toT v ∧ ∀ r H', IsT H' n.bare.toT r → Oth [] H H' → Q r H'
def spChanges (P : Program) (w : World) : Sp := fun vs H Q _ => ∃ (d : Addr) (H0 : Hp) (l : List (Key0 × Sn)) (n : Sn) (v : V), vs = [.ref d, .int (n.num : Int), v] ∧ DicL P w H d (fun m u => IsT H0 m.toT u) l ∧ Oth [] H0 H ∧ IsT H n.toT v ∧
  (∀ m, lastV l (some n.num) = some m → kind m = kind n) ∧
  ∀ r us H', H r = none → H' r = some (.lst us) → Paired (IsT H') (changeT (lastV l (some n.num)) n) us → Oth [] H H' → Q (.ref r) H'
def spPuts : Sp := fun vs H Q _ => ∃ (p : Key0) (e l : List Nat) (a b : Addr), vs = [k0V p, .ref a, .ref b] ∧ H a = some (.lst (intL e)) ∧ H b = some (.lst (intL l)) ∧ e.Nodup ∧ e.length ≤ 1000 ∧ l.length ≤ 1000 ∧
  ∀ r us H', H r = none → H' r = some (.lst us) → Paired (IsT H') (putsT p (stay e l) l.reverse none) us → Oth [] H H' → Q (.ref r) H'
def spPatch (n : Nat) : Sp := fun vs H Q _ => ∃ (b a : List Sn) (v1 v2 : V), vs = [v1, v2] ∧ IsT H (.tup (Sn.toTs b)) v1 ∧ IsT H (.tup (Sn.toTs a)) v2 ∧ Sn.hts b < n ∧ Sn.hts a < n ∧ (Sn.all b).length ≤ 1000 ∧ (Sn.all a).length ≤ 1000 ∧ (∀ f ∈ famN b, f.2.Nodup) ∧ (nums (Sn.all a)).Nodup ∧
  (∀ n ∈ Sn.all a, ∀ m ∈ Sn.all b, n.num = m.num → kind m = kind n) ∧
  ∀ r H', IsT H' (.tup (patchT b a)) r → Oth [] H H' → Q r H'
end Pw
namespace Pw
open PySem PySem.Spec PyProof.Rows L2
structure Fst where
  ps : List Int
  ks : List Str
def Fst.n (F : Fst) : Nat := F.ps.length
structure Fst.Ok (F : Fst) : Prop where
  same : F.ks.length = F.ps.length
  lo : 1 ≤ F.ps.length
  hi : F.ps.length ≤ 12
  par : ∀ k p, F.ps[k]? = some p → p = -1 ∨ ∃ j : Nat, j < k ∧ p = (j : Int)
  kd : ∀ s ∈ F.ks, s = "box" ∨ s = "text" ∨ s = "input"
theorem kp {H H' : Hp} {S : List Addr} {a b : Addr} {u : HO} (o : Oth S H H') (h : H a = some u) (n : a ≠ b) (hS : ∀ x ∈ S, x = b ∨ H x = none) : H' a = some u :=
  o.keep a u (fun z => (hS a z).elim n fun y => by rw [h] at y; cases y) h
def FstAt (b : Addr) (H : Hp) (r : Addr) (F : Fst) : Prop := ∃ pa ki, H r = some (.lst [.ref pa, .ref ki]) ∧ H pa = some (.lst (F.ps.map V.int)) ∧ H ki = some (.lst (F.ks.map V.str)) ∧ r ≠ b ∧ pa ≠ b ∧ ki ≠ b
theorem FstAt.oth {b : Addr} {H H' : Hp} {r : Addr} {F : Fst} {S : List Addr} (h : FstAt b H r F) (o : Oth S H H') (hS : ∀ x ∈ S, x = b ∨ H x = none) : FstAt b H' r F := by
  obtain ⟨pa, ki, h1, h2, h3, n1, n2, n3⟩ := h
  exact ⟨pa, ki, kp o h1 n1 hS, kp o h2 n2 hS, kp o h3 n3 hS, n1, n2, n3⟩
/-- the box that holds a node -/
def Fst.up (F : Fst) (k : Nat) : Key0 := match F.ps[k]? with
  | some p => if p = -1 then none else some p.toNat
  | none => none
def kdS (s : Str) : Nat := if s = "text" then 0 else if s = "input" then 1 else 2
def Fst.kind (F : Fst) (k : Nat) : Nat := kdS (F.ks.getD k "")
/-- the tag that a drawn box of this number has -/
def tagOf (k : Nat) : Str := if k % 2 = 0 then "p" else "div"
def KindAt (F : Fst) (n : Sn) : Prop := Pw.kind n = F.kind n.num ∧ (∀ k t ns, n = .box k t ns → t = tagOf k) ∧ ∀ k s, n = .text k s → PyData.strOk s = true
def TxOk (s : Str) : Prop := s.length ≤ 3 ∧ PyData.strOk s = true
theorem tx_a : TxOk "a" := ⟨by decide, by decide +kernel⟩
theorem tx_b : TxOk "b" := ⟨by decide, by decide +kernel⟩
theorem tx_cc : TxOk "cc" := ⟨by decide, by decide +kernel⟩
theorem tx_new : TxOk "new" := ⟨by decide, by decide +kernel⟩
def FitAt (F : Fst) (p : Key0) (ns : List Sn) : Prop :=
  (∀ q ∈ Sn.lst p ns, q.2.num < F.ps.length ∧ F.up q.2.num = q.1 ∧ KindAt F q.2) ∧ (nums ns).Nodup ∧ ∀ q ∈ Sn.lst p ns, (nums q.2.kids).Nodup
def pI : Key0 → Int
  | none => -1
  | some k => k
def low : Key0 → Nat
  | none => 0
  | some k => k + 1
theorem up_low {F : Fst} (ok : F.Ok) {k : Nat} (h : k < F.ps.length) : low (F.up k) ≤ k := by
  unfold Fst.up
  rw [List.getElem?_eq_getElem h]
  rcases ok.par k _ (List.getElem?_eq_getElem h) with e | ⟨j, hj, e⟩
  · rw [e]; exact Nat.zero_le _
  · rw [e]
    show low (if ((j : Nat) : Int) = -1 then none else some ((j : Nat) : Int).toNat) ≤ k
    rw [if_neg (by omega)]
    show ((j : Nat) : Int).toNat + 1 ≤ k
    omega
theorem up_pI {F : Fst} (ok : F.Ok) {k : Nat} {x : Int} (h : F.ps[k]? = some x) (p : Key0) : x = pI p ↔ F.up k = p := by
  unfold Fst.up
  rw [h]
  rcases ok.par k x h with e | ⟨j, hj, e⟩
  · subst e
    show (-1 = pI p) ↔ none = p
    cases p with
    | none => exact ⟨fun _ => rfl, fun _ => rfl⟩
    | some m => exact ⟨fun z => by have z : (-1 : Int) = (m : Int) := z; omega, fun z => nomatch z⟩
  · subst e
    show (((j : Nat) : Int) = pI p) ↔ (if ((j : Nat) : Int) = -1 then none else some ((j : Nat) : Int).toNat) = p
    rw [if_neg (by omega)]
    have ej : ((j : Nat) : Int).toNat = j := by omega
    rw [ej]
    cases p with
    | none => exact ⟨fun z => by have z : ((j : Nat) : Int) = -1 := z; omega, fun z => nomatch z⟩
    | some m => exact ⟨fun z => by have z : ((j : Nat) : Int) = (m : Int) := z; rw [show j = m by omega], fun z => by rw [Option.some.inj z]; rfl⟩
/-! ### promises -/
def spBoxT (K : PySem.W.Frag) : Sp := fun vs H Q _ => ∃ (a : Addr) (ns : List Int) (i j : Nat), vs = [.ref a, .int (i : Int), .int (j : Int)] ∧ SqL K H a (ns.map V.int) ∧ i ≤ 100 ∧ j ≤ 100 ∧
  ∀ b d rest H', H b = none → Box H' b d rest → Oth [] H H' → Q (.ref b) H'
def spForestT : Sp := fun vs H Q _ => ∃ b d rest, vs = [.ref b] ∧ Box H b d rest ∧ ∀ r F H', Fst.Ok F → FstAt b H' r F → Box H' b d rest → Oth [b] H H' → Q (.ref r) H'
def spHereT : Sp := fun vs H Q _ => ∃ b d rest fr F, vs = [.ref b, .ref fr] ∧ Box H b d rest ∧ Fst.Ok F ∧ FstAt b H fr F ∧
  ∀ r (bs : List Bool) H', bs.length = F.ps.length → H' r = some (.lst (bs.map V.bl)) → r ≠ b → Box H' b d rest → Oth [b] H H' → Q (.ref r) H'
def spArrT (m : Nat) : Sp := fun vs H Q _ => ∃ b d rest fr F hr tr, ∃ (bs : List Bool) (ts : List Str) (p : Key0), vs = [.ref b, .ref fr, .ref hr, .ref tr, .int (pI p)] ∧ Box H b d rest ∧ Fst.Ok F ∧ FstAt b H fr F ∧
  H hr = some (.lst (bs.map V.bl)) ∧ hr ≠ b ∧ bs.length = F.ps.length ∧ H tr = some (.lst (ts.map V.str)) ∧ tr ≠ b ∧ ts.length = F.ps.length ∧ (∀ s ∈ ts, TxOk s) ∧ F.ps.length < m + low p ∧ low p ≤ F.ps.length ∧
  ∀ r ns H', FitAt F p ns → Sn.hts ns < m → IsT H' (.tup (Sn.toTs ns)) r → Box H' b d rest → Oth [b] H H' → Q r H'
def spTwoT : Sp := fun vs H Q _ => ∃ b d rest, vs = [.ref b] ∧ Box H b d rest ∧
  ∀ r v1 v2 F B A H', Fst.Ok F → H' r = some (.lst [v1, v2]) → r ≠ b → IsT H' (.tup (Sn.toTs B)) v1 → IsT H' (.tup (Sn.toTs A)) v2 → FitAt F none B → FitAt F none A → Sn.hts B < 13 → Sn.hts A < 13 → Oth [b] H H' → Q (.ref r) H'
end Pw
namespace Pw
open PySem PySem.Spec PyProof.Rows L2
theorem erase_is {α : Type} (l : List α) (r : Nat) : l.eraseIdx r = l.take r ++ l.drop (r + 1) := List.eraseIdx_eq_take_drop_succ ..
theorem erase_ok {l : List Nat} {r x : Nat} (nd : l.Nodup) (h : l[r]? = some x) : (l.eraseIdx r).Nodup ∧ x ∉ l.eraseIdx r ∧ (∀ y ∈ l.eraseIdx r, y ∈ l) ∧ (l.eraseIdx r).length + 1 = l.length := by
  obtain ⟨hr, e⟩ := List.getElem?_eq_some_iff.mp h
  have e1 : l = l.take r ++ x :: l.drop (r + 1) := by rw [← e, ← List.drop_eq_getElem_cons hr, List.take_append_drop]
  rw [erase_is]
  have nd2 := nd
  rw [e1] at nd2
  obtain ⟨a1, a2, a3⟩ := List.nodup_append.mp nd2
  obtain ⟨b1, b2⟩ := List.nodup_cons.mp a2
  refine ⟨List.nodup_append.mpr ⟨a1, b2, fun u hu v hv => a3 u hu v (List.mem_cons_of_mem _ hv)⟩, fun z => ?_, fun y hy => ?_, ?_⟩
  · rcases List.mem_append.mp z with z | z
    · exact a3 x z x List.mem_cons_self rfl
    · exact b1 z
  · rcases List.mem_append.mp hy with z | z
    · exact List.mem_of_mem_take z
    · exact List.mem_of_mem_drop z
  · rw [List.length_append, List.length_take, List.length_drop]; omega
theorem intL_erase (l : List Nat) (r : Nat) : (intL l).eraseIdx r = intL (l.eraseIdx r) := by
  rw [erase_is, erase_is]
  unfold intL
  rw [List.map_append, List.map_take, List.map_drop]
theorem FitAt.nil (F : Fst) (p : Key0) : FitAt F p [] := ⟨(fun q h => nomatch h), List.nodup_nil, (fun q h => nomatch h)⟩
/-- one node more -/
theorem FitAt.snoc {F : Fst} {p : Key0} {ns : List Sn} {n : Sn} (h : FitAt F p ns) (hn : n.num < F.ps.length) (hu : F.up n.num = p) (hk : KindAt F n) (hd : n.num ∉ nums ns) (hi : FitAt F (some n.num) n.kids) : FitAt F p (ns ++ [n]) := by
  obtain ⟨a, b, c⟩ := h
  obtain ⟨a', b', c'⟩ := hi
  have e : Sn.lst p (ns ++ [n]) = Sn.lst p ns ++ (p, n) :: Sn.lst (some n.num) n.kids := by
    rw [Sn.lst_app]
    cases n <;> simp [Sn.lst, Sn.lst1, Sn.kids, Sn.num]
  refine ⟨fun q hq => ?_, ?_, fun q hq => ?_⟩
  · rw [e] at hq
    rcases List.mem_append.mp hq with h | h
    · exact a q h
    · rcases List.mem_cons.mp h with rfl | h
      · exact ⟨hn, hu, hk⟩
      · exact a' q h
  · unfold nums
    rw [List.map_append, List.map_singleton]
    exact List.nodup_append.mpr ⟨b, (List.pairwise_singleton _ _), fun u hu v hv z => hd (by rw [List.mem_singleton.mp hv] at z; rw [← z]; exact hu)⟩
  · rw [e] at hq
    rcases List.mem_append.mp hq with h | h
    · exact c q h
    · rcases List.mem_cons.mp h with rfl | h
      · exact b'
      · exact c' q h
theorem hts_snoc (ns : List Sn) (n : Sn) : Sn.hts (ns ++ [n]) = max (Sn.hts ns) n.ht := by
  induction ns with
  | nil => show max n.ht 0 = max 0 n.ht; omega
  | cons m r ih => show max m.ht (Sn.hts (r ++ [n])) = max (max m.ht (Sn.hts r)) n.ht; rw [ih]; omega
end Pw
namespace Pw
open PySem PySem.Spec PyProof.Rows L2
def spAllT (n : Nat) : Sp := fun vs H Q _ => ∃ (ns : List Sn) (v : V), vs = [v] ∧ IsT H (.tup (Sn.toTs ns)) v ∧ Sn.hts ns < n ∧ (Sn.all ns).length ≤ 1000 ∧
  ∀ r us H', H r = none → H' r = some (.lst us) → Paired (IsT H') ((Sn.all ns).map Sn.toT) us → Oth [] H H' → Q (.ref r) H'
/-- a family as the law tells it -/
def FamL (H0 H : Hp) (f : Key0 × List Sn) (v : V) : Prop := ∃ t l us, v = .ref t ∧ H t = some (.lst [k0V f.1, .ref l]) ∧ H l = some (.lst us) ∧ Paired (IsT H) (f.2.map Sn.toT) us ∧ H0 t = none ∧ H0 l = none
def FamQ (p : Addr) (H0 H : Hp) (f : Key0 × List Sn) (v : V) : Prop := ∃ t l us, v = .ref t ∧ H t = some (.lst [k0V f.1, .ref l]) ∧ H l = some (.lst us) ∧ Paired (IsT H) (f.2.map Sn.toT) us ∧ H0 t = none ∧ H0 l = none ∧ t ≠ p ∧ l ≠ p
theorem FamL.oth {H0 H H' : Hp} {f : Key0 × List Sn} {v : V} (h : FamL H0 H f v) (o : Oth [] H H') : FamL H0 H' f v := by
  obtain ⟨t, l, us, e, h1, h2, h3, h4, h5⟩ := h
  exact ⟨t, l, us, e, o.keep t _ (by simp) h1, o.keep l _ (by simp) h2, paired_oth h3 o, h4, h5⟩
theorem FamQ.oth {p : Addr} {H0 H H' : Hp} {f : Key0 × List Sn} {v : V} (h : FamQ p H0 H f v) (o : Oth [p] H H') : FamQ p H0 H' f v := by
  obtain ⟨t, l, us, e, h1, h2, h3, h4, h5, h6, h7⟩ := h
  exact ⟨t, l, us, e, o.keep t _ (by simp [h6]) h1, o.keep l _ (by simp [h7]) h2, paired_oth h3 o, h4, h5, h6, h7⟩
theorem FamQ.fam {p : Addr} {H0 H : Hp} {f : Key0 × List Sn} {v : V} (h : FamQ p H0 H f v) : FamL H0 H f v := by
  obtain ⟨t, l, us, e, h1, h2, h3, h4, h5, h6, h7⟩ := h
  exact ⟨t, l, us, e, h1, h2, h3, h4, h5⟩
def spFamsT (n : Nat) : Sp := fun vs H Q _ => ∃ (ns : List Sn) (v : V), vs = [v] ∧ IsT H (.tup (Sn.toTs ns)) v ∧ Sn.hts ns < n ∧ (Sn.all ns).length ≤ 1000 ∧
  ∀ r us H', H r = none → H' r = some (.lst us) → Paired (FamL H H') (Sn.fams ns) us → Oth [] H H' → Q (.ref r) H'
def spLongT : Sp := fun vs H Q _ => ∃ (ps : List Int) (a : Addr), vs = [.ref a] ∧ H a = some (.lst (ps.map V.int)) ∧ ps.length ≤ 12 ∧
  ∀ r H', H' r = some (.lst (intL (bestOf [] (rrows (fun j => ps.getD j 0) ps.length)))) → Oth [] H H' → Q (.ref r) H'
def famAt (ns : List Sn) (p : Key0) : List Nat := (lastV (famN ns) p).getD []
def spKeptT (n : Nat) : Sp := fun vs H Q _ => ∃ (B A : List Sn) (v1 v2 : V) (p : Key0), vs = [v1, v2, k0V p] ∧ IsT H (.tup (Sn.toTs B)) v1 ∧ IsT H (.tup (Sn.toTs A)) v2 ∧ Sn.hts B < n ∧ Sn.hts A < n ∧ (Sn.all B).length ≤ 1000 ∧ (Sn.all A).length ≤ 1000 ∧
  (famAt B p).Nodup ∧ (famAt A p).length ≤ 12 ∧ ∀ r H', H r = none → H' r = some (.lst (intL (stay (famAt B p) (famAt A p)))) → Oth [] H H' → Q (.ref r) H'
end Pw
namespace Pw
open PySem PySem.Spec PyProof.Rows L2
theorem ltI_lexN : ∀ r b : List Nat, ltI (intI r) (intI b) = lexN r b
  | [], [] => rfl
  | [], _ :: _ => rfl
  | _ :: _, [] => rfl
  | x :: xs, y :: ys => by
    show (if ((x : Nat) : Int) = (y : Int) then ltI (intI xs) (intI ys) else decide (((x : Nat) : Int) < (y : Int))) = (if x = y then lexN xs ys else decide (x < y))
    by_cases h : x = y
    · rw [if_pos h, if_pos (by rw [h]), ltI_lexN xs ys]
    · rw [if_neg h, if_neg (by omega)]
      exact decide_eq_decide.mpr (by omega)
/-- a list of numbers that is not at g -/
def LIg (g : Addr) (H : Hp) (l : List Nat) (v : V) : Prop := ∃ a, v = .ref a ∧ H a = some (.lst (intL l)) ∧ a ≠ g
theorem LIg.oth {g : Addr} {H H' : Hp} {l : List Nat} {v : V} (h : LIg g H l v) (o : Oth [g] H H') : LIg g H' l v := by
  obtain ⟨a, e, h, n⟩ := h
  exact ⟨a, e, o.keep a _ (by simp [n]) h, n⟩
theorem LIg.li {g : Addr} {H : Hp} {l : List Nat} {v : V} (h : LIg g H l v) : LI H l v := by
  obtain ⟨a, e, h, n⟩ := h
  exact ⟨a, e, h⟩
theorem k0V_eq (p q : Key0) : scal (k0V p) (k0V q) = true ∧ (decide (k0V p = k0V q) = decide (p = q)) := by
  cases p with
  | none => cases q with
    | none => exact ⟨rfl, rfl⟩
    | some j => exact ⟨rfl, by rw [decide_eq_false (fun h => nomatch h), decide_eq_false (fun h => nomatch h)]⟩
  | some i => cases q with
    | none => exact ⟨rfl, by rw [decide_eq_false (fun h => nomatch h), decide_eq_false (fun h => nomatch h)]⟩
    | some j =>
      refine ⟨rfl, decide_eq_decide.mpr ⟨fun h => ?_, fun h => by rw [h]⟩⟩
      have h : V.int ((i : Nat) : Int) = V.int (j : Int) := h
      injection h with h
      rw [show i = j by omega]
end Pw
namespace Pw
open PySem PySem.Spec PyProof.Rows L2
theorem idx_first : ∀ (l : List Nat) (n m : Nat), m < l.idxOf n → l[m]? ≠ some n
  | [], n, m, h, e => by simp at e
  | a :: l, n, m, h, e => by
    rw [List.idxOf_cons] at h
    by_cases c : a = n
    · subst c; simp at h
    · have hb : (a == n) = false := beq_eq_false_iff_ne.mpr c
      rw [hb] at h
      cases m with
      | zero => simp at e; exact c e
      | succ m =>
        have h : m + 1 < l.idxOf n + 1 := by simpa using h
        exact idx_first l n m (by omega) (by simpa using e)
theorem idx_at {l : List Nat} {n : Nat} (h : n ∈ l) : l[l.idxOf n]? = some n := by
  have hi : l.idxOf n < l.length := List.idxOf_lt_length_of_mem h
  rw [List.getElem?_eq_getElem hi, List.getElem_idxOf]
theorem places_pos {e l : List Nat} : ∀ p ∈ places e l, (-1 : Int) < p := fun p hp => by
  obtain ⟨n, _, rfl⟩ := List.mem_map.mp hp
  omega
theorem gr_lt {e l : List Nat} : ∀ k ∈ gr 0 (-1) (places e l) (lens (places e l)) (top (lens (places e l))), k < (common e l).length := fun k hk => by
  have ht : top (lens (places e l)) = mx (-1) (places e l) (lens (places e l)) := (top_mx (-1) _ _ (lens_len _).symm places_pos).symm
  obtain ⟨g1, _, _⟩ := gr_ok (places e l) 0 (-1) _ ht
  have := ((rise_row (fun j => (places e l).getD j 0) (places e l) 0 (-1) _ (fun j x h => by
    simp only [Nat.zero_add, List.getD_eq_getElem?_getD, h, Option.getD_some])).mp g1).2 k hk
  have lp : (places e l).length = (common e l).length := by unfold places; rw [List.length_map]
  omega
end Pw
namespace Pw
open PySem PySem.Spec PyProof.Rows L2
inductive Anc (F : Fst) : Nat → Nat → Prop
  | refl {k : Nat} : Anc F k k
  | step {j k m : Nat} : F.up k = some m → Anc F j m → Anc F j k
theorem up_lt {F : Fst} (ok : F.Ok) {k m : Nat} (h : F.up k = some m) : m < k := by
  have hk : k < F.ps.length := by
    rcases Nat.lt_or_ge k F.ps.length with h' | h'
    · exact h'
    · unfold Fst.up at h
      rw [List.getElem?_eq_none h'] at h
      cases h
  have := up_low ok hk
  rw [h] at this
  exact this
theorem Anc.le {F : Fst} (ok : F.Ok) {j k : Nat} (h : Anc F j k) : j ≤ k := by
  induction h with
  | refl => exact Nat.le_refl _
  | step e _ ih => have := up_lt ok e; omega
theorem Anc.two {F : Fst} {j k : Nat} (h : Anc F j k) : ∀ {j' : Nat}, Anc F j' k → Anc F j j' ∨ Anc F j' j := by
  induction h with
  | refl => exact fun h' => .inr h'
  | step e a ih =>
    intro j' h'
    cases h' with
    | refl => exact .inl (.step e a)
    | step e' a' =>
      rw [e] at e'
      cases e'
      exact ih a'
theorem Anc.up {F : Fst} {c x k : Nat} (h : Anc F c x) (e : F.up c = some k) : Anc F k x := by
  induction h with
  | refl => exact .step e .refl
  | step e' _ ih => exact .step e' ih
theorem anc_sib {F : Fst} (ok : F.Ok) {j j' : Nat} (h : Anc F j j') (ne : j ≠ j') (e : F.up j = F.up j') : False := by
  cases h with
  | refl => exact ne rfl
  | step e' a =>
    rw [e'] at e
    have h1 := up_lt ok e
    have h2 := a.le ok
    omega
mutual
theorem sub_anc1 {F : Fst} : ∀ (n : Sn) (p : Key0), (∀ q ∈ n.lst1 p, F.up q.2.num = q.1) → ∀ q ∈ n.lst1 p, Anc F n.num q.2.num
  | .text k s, p, _, q, hq => by rw [List.mem_singleton.mp hq]; exact .refl
  | .input k s, p, _, q, hq => by rw [List.mem_singleton.mp hq]; exact .refl
  | .box k t ns, p, hu, q, hq => by
    rcases List.mem_cons.mp hq with rfl | hq
    · exact .refl
    · obtain ⟨c, hc, a⟩ := sub_anc ns (some k) (fun q hq => hu q (List.mem_cons_of_mem _ hq)) q hq
      exact a.1.up a.2
theorem sub_anc {F : Fst} : ∀ (ns : List Sn) (p : Key0), (∀ q ∈ Sn.lst p ns, F.up q.2.num = q.1) → ∀ q ∈ Sn.lst p ns, ∃ c ∈ ns, Anc F c.num q.2.num ∧ F.up c.num = p
  | [], p, _, q, hq => nomatch hq
  | n :: r, p, hu, q, hq => by
    rcases List.mem_append.mp hq with h | h
    · refine ⟨n, List.mem_cons_self, sub_anc1 n p (fun q hq => hu q (List.mem_append_left _ hq)) q h, ?_⟩
      have : (p, n) ∈ n.lst1 p := by cases n <;> exact List.mem_cons_self
      exact hu (p, n) (List.mem_append_left _ this)
    · obtain ⟨c, hc, a⟩ := sub_anc r p (fun q hq => hu q (List.mem_append_right _ hq)) q h
      exact ⟨c, List.mem_cons_of_mem _ hc, a⟩
end
mutual
theorem nodup1 {F : Fst} (ok : F.Ok) : ∀ (n : Sn) (p : Key0), (∀ q ∈ n.lst1 p, F.up q.2.num = q.1) → (∀ q ∈ n.lst1 p, (nums q.2.kids).Nodup) → ((n.lst1 p).map (·.2.num)).Nodup
  | .text k s, p, _, _ => List.pairwise_singleton _ _
  | .input k s, p, _, _ => List.pairwise_singleton _ _
  | .box k t ns, p, hu, hk => by
    have hu' : ∀ q ∈ Sn.lst (some k) ns, F.up q.2.num = q.1 := fun q hq => hu q (List.mem_cons_of_mem _ hq)
    refine List.nodup_cons.mpr ⟨fun z => ?_, nodupL ok ns (some k) hu' (hk (p, .box k t ns) List.mem_cons_self) fun q hq => hk q (List.mem_cons_of_mem _ hq)⟩
    obtain ⟨q, hq, e⟩ := List.mem_map.mp z
    obtain ⟨c, _, a, u⟩ := sub_anc ns (some k) hu' q hq
    have h1 := up_lt ok u
    have h2 := a.le ok
    have e : q.2.num = k := e
    omega
theorem nodupL {F : Fst} (ok : F.Ok) : ∀ (ns : List Sn) (p : Key0), (∀ q ∈ Sn.lst p ns, F.up q.2.num = q.1) → (nums ns).Nodup → (∀ q ∈ Sn.lst p ns, (nums q.2.kids).Nodup) → ((Sn.lst p ns).map (·.2.num)).Nodup
  | [], p, _, _, _ => List.nodup_nil
  | n :: r, p, hu, hd, hk => by
    have hu1 : ∀ q ∈ n.lst1 p, F.up q.2.num = q.1 := fun q hq => hu q (List.mem_append_left _ hq)
    have hu2 : ∀ q ∈ Sn.lst p r, F.up q.2.num = q.1 := fun q hq => hu q (List.mem_append_right _ hq)
    obtain ⟨d1, d2⟩ := List.nodup_cons.mp (show (n.num :: nums r).Nodup from hd)
    rw [Sn.lst, List.map_append]
    refine List.nodup_append.mpr ⟨nodup1 ok n p hu1 fun q hq => hk q (List.mem_append_left _ hq), nodupL ok r p hu2 d2 fun q hq => hk q (List.mem_append_right _ hq), fun x hx y hy e => ?_⟩
    obtain ⟨q, hq, rfl⟩ := List.mem_map.mp hx
    obtain ⟨q', hq', e'⟩ := List.mem_map.mp hy
    have a := sub_anc1 n p hu1 q hq
    obtain ⟨c, hc, a', u'⟩ := sub_anc r p hu2 q' hq'
    have e' : q'.2.num = y := e'
    rw [e', ← e] at a'
    have un : F.up n.num = p := by
      have : (p, n) ∈ n.lst1 p := by cases n <;> exact List.mem_cons_self
      exact hu1 _ this
    have ne : n.num ≠ c.num := fun z => d1 (by rw [z]; exact List.mem_map.mpr ⟨c, hc, rfl⟩)
    rcases a.two a' with h | h
    · exact anc_sib ok h ne (by rw [un, u'])
    · exact anc_sib ok h (Ne.symm ne) (by rw [un, u'])
end
theorem all_nodup {F : Fst} (ok : F.Ok) {ns : List Sn} (h : FitAt F none ns) : (nums (Sn.all ns)).Nodup := by
  have := nodupL ok ns none (fun q hq => (h.1 q hq).2.1) h.2.1 h.2.2
  unfold nums Sn.all
  rw [List.map_map]
  exact this
theorem nodupN_le : ∀ (n : Nat) (l : List Nat), l.Nodup → (∀ x ∈ l, x < n) → l.length ≤ n
  | 0, l, _, h => by
    cases l with
    | nil => exact Nat.le_refl _
    | cons a l => exact absurd (h a List.mem_cons_self) (Nat.not_lt_zero a)
  | n + 1, l, nd, h => by
    have ih := nodupN_le n (l.erase n) (nd.erase n) fun x hx => by
      have h1 := h x (List.mem_of_mem_erase hx)
      have h2 : x ≠ n := fun e => (List.Nodup.not_mem_erase nd) (by rw [e] at hx; exact hx)
      omega
    have := List.length_erase (a := n) (l := l)
    rw [this] at ih
    split at ih <;> omega
theorem all_le {F : Fst} (ok : F.Ok) {ns : List Sn} (h : FitAt F none ns) : (Sn.all ns).length ≤ 12 := by
  have := nodupN_le 12 (nums (Sn.all ns)) (all_nodup ok h) fun x hx => by
    unfold nums Sn.all at hx
    rw [List.map_map] at hx
    obtain ⟨q, hq, e⟩ := List.mem_map.mp hx
    have h1 := (h.1 q hq).1
    have h2 := ok.hi
    have e : q.2.num = x := e
    omega
  unfold nums at this
  rwa [List.length_map] at this
mutual
theorem lst1_kids : ∀ (n : Sn) (p : Key0), ∀ q ∈ n.lst1 p, ∀ c ∈ q.2.kids, ((some q.2.num : Key0), c) ∈ n.lst1 p
  | .text k s, p, q, hq, c, hc => by rw [List.mem_singleton.mp hq] at hc; cases hc
  | .input k s, p, q, hq, c, hc => by rw [List.mem_singleton.mp hq] at hc; cases hc
  | .box k t ns, p, q, hq, c, hc => by
    rcases List.mem_cons.mp hq with rfl | hq
    · exact List.mem_cons_of_mem _ (lst_top ns (some k) c hc)
    · exact List.mem_cons_of_mem _ (lst_kids ns (some k) q hq c hc)
theorem lst_kids : ∀ (ns : List Sn) (p : Key0), ∀ q ∈ Sn.lst p ns, ∀ c ∈ q.2.kids, ((some q.2.num : Key0), c) ∈ Sn.lst p ns
  | [], p, q, hq, c, hc => nomatch hq
  | n :: r, p, q, hq, c, hc => by
    rcases List.mem_append.mp hq with h | h
    · exact List.mem_append_left _ (lst1_kids n p q h c hc)
    · exact List.mem_append_right _ (lst_kids r p q h c hc)
theorem lst_top : ∀ (ns : List Sn) (p : Key0), ∀ c ∈ ns, (p, c) ∈ Sn.lst p ns
  | [], p, c, hc => nomatch hc
  | n :: r, p, c, hc => by
    rcases List.mem_cons.mp hc with rfl | h
    · refine List.mem_append_left _ ?_
      cases c <;> exact List.mem_cons_self
    · exact List.mem_append_right _ (lst_top r p c h)
end
mutual
theorem lst1_of : ∀ (n : Sn) (p : Key0), ∀ q ∈ n.lst1 p, (q.1 = p ∧ q.2 = n) ∨ ∃ b ∈ (n.lst1 p).map (·.2), b.isB = true ∧ q.1 = some b.num ∧ q.2 ∈ b.kids
  | .text k s, p, q, hq => by rw [List.mem_singleton.mp hq]; exact .inl ⟨rfl, rfl⟩
  | .input k s, p, q, hq => by rw [List.mem_singleton.mp hq]; exact .inl ⟨rfl, rfl⟩
  | .box k t ns, p, q, hq => by
    rcases List.mem_cons.mp hq with rfl | hq
    · exact .inl ⟨rfl, rfl⟩
    · rcases lst_of ns (some k) q hq with ⟨e1, e2⟩ | ⟨b, hb, r⟩
      · exact .inr ⟨.box k t ns, List.mem_cons_self, rfl, e1, e2⟩
      · exact .inr ⟨b, List.mem_cons_of_mem _ hb, r⟩
theorem lst_of : ∀ (ns : List Sn) (p : Key0), ∀ q ∈ Sn.lst p ns, (q.1 = p ∧ q.2 ∈ ns) ∨ ∃ b ∈ (Sn.lst p ns).map (·.2), b.isB = true ∧ q.1 = some b.num ∧ q.2 ∈ b.kids
  | [], p, q, hq => nomatch hq
  | n :: r, p, q, hq => by
    rw [Sn.lst, List.map_append]
    rcases List.mem_append.mp hq with h | h
    · rcases lst1_of n p q h with ⟨e1, e2⟩ | ⟨b, hb, r⟩
      · exact .inl ⟨e1, by rw [e2]; exact List.mem_cons_self⟩
      · exact .inr ⟨b, List.mem_append_left _ hb, r⟩
    · rcases lst_of r p q h with ⟨e1, e2⟩ | ⟨b, hb, r⟩
      · exact .inl ⟨e1, List.mem_cons_of_mem _ e2⟩
      · exact .inr ⟨b, List.mem_append_right _ hb, r⟩
end
/-- each number of a row has its box there -/
theorem fam_up {F : Fst} {ns : List Sn} (h : FitAt F none ns) {f : Key0 × List Nat} (hf : f ∈ famN ns) {k : Nat} (hk : k ∈ f.2) : F.up k = f.1 ∧ k ∈ nums (Sn.all ns) := by
  obtain ⟨g, hg, rfl⟩ := List.mem_map.mp hf
  obtain ⟨c, hc, rfl⟩ := List.mem_map.mp hk
  have : (g.1, c) ∈ Sn.lst none ns := by
    rcases List.mem_cons.mp hg with rfl | hg
    · exact lst_top ns none c hc
    · obtain ⟨b, hb, rfl⟩ := List.mem_map.mp hg
      obtain ⟨q, hq, rfl⟩ := List.mem_map.mp (List.mem_filter.mp hb).1
      exact lst_kids ns none q hq c hc
  exact ⟨(h.1 _ this).2.1, List.mem_map.mpr ⟨c, List.mem_map.mpr ⟨_, this, rfl⟩, rfl⟩⟩
theorem fam_of {F : Fst} {ns : List Sn} (h : FitAt F none ns) {k : Nat} (hk : k ∈ nums (Sn.all ns)) : ∃ l, (F.up k, l) ∈ famN ns ∧ k ∈ l := by
  obtain ⟨n, hn, rfl⟩ := List.mem_map.mp hk
  obtain ⟨q, hq, rfl⟩ := List.mem_map.mp hn
  have hu := (h.1 q hq).2.1
  rcases lst_of ns none q hq with ⟨e1, e2⟩ | ⟨b, hb, ib, e1, e2⟩
  · exact ⟨nums ns, by rw [hu, e1]; exact List.mem_map.mpr ⟨(none, ns), List.mem_cons_self, rfl⟩, List.mem_map.mpr ⟨q.2, e2, rfl⟩⟩
  · exact ⟨nums b.kids, by rw [hu, e1]; exact List.mem_map.mpr ⟨(some b.num, b.kids), List.mem_cons_of_mem _ (List.mem_map.mpr ⟨b, List.mem_filter.mpr ⟨hb, ib⟩, rfl⟩), rfl⟩, List.mem_map.mpr ⟨q.2, e2, rfl⟩⟩
theorem fam_keys {F : Fst} (ok : F.Ok) {ns : List Sn} (h : FitAt F none ns) : ((famN ns).map (·.1)).Nodup := by
  unfold famN Sn.fams
  rw [List.map_map, List.map_cons, List.map_map]
  refine List.nodup_cons.mpr ⟨fun z => ?_, ?_⟩
  · obtain ⟨n, _, e⟩ := List.mem_map.mp z
    cases e
  · have : (((Sn.all ns).filter Sn.isB).map Sn.num).Nodup := List.Sublist.nodup (List.Sublist.map _ List.filter_sublist) (all_nodup ok h)
    have := List.Pairwise.map (f := (some : Nat → Key0)) (S := (· ≠ ·)) (fun a b h z => h (Option.some.inj z)) this
    rw [List.map_map] at this
    exact this
theorem fam_at {F : Fst} (ok : F.Ok) {ns : List Sn} (h : FitAt F none ns) {f : Key0 × List Nat} (hf : f ∈ famN ns) : famAt ns f.1 = f.2 := by
  unfold famAt
  rw [lastV_some (fam_keys ok h) (show (f.1, f.2) ∈ famN ns from hf)]
  rfl
theorem fam_nodup {F : Fst} {ns : List Sn} (h : FitAt F none ns) : ∀ f ∈ famN ns, f.2.Nodup := fun f hf => by
  obtain ⟨g, hg, rfl⟩ := List.mem_map.mp hf
  rcases List.mem_cons.mp hg with rfl | hg
  · exact h.2.1
  · obtain ⟨b, hb, rfl⟩ := List.mem_map.mp hg
    obtain ⟨q, hq, rfl⟩ := List.mem_map.mp (List.mem_filter.mp hb).1
    exact h.2.2 q hq
/-- whether a number of a row was there, was it in the same row -/
theorem old_iff {F : Fst} (ok : F.Ok) {B A : List Sn} (hB : FitAt F none B) (hA : FitAt F none A) {f : Key0 × List Nat} (hf : f ∈ famN A) {k : Nat} (hk : k ∈ f.2) : k ∈ nums (Sn.all B) ↔ k ∈ earlierOf B f.1 := by
  obtain ⟨u, _⟩ := fam_up hA hf hk
  refine ⟨fun h => ?_, fun h => ?_⟩
  · obtain ⟨l, hl, hkl⟩ := fam_of hB h
    rw [u] at hl
    have := fam_at ok hB hl
    unfold earlierOf
    unfold famAt at this
    rw [this]; exact hkl
  · unfold earlierOf at h
    cases e : lastV (famN B) f.1 with
    | none => rw [e] at h; cases h
    | some l =>
      rw [e] at h
      exact (fam_up hB (lastV_mem e) h).2
theorem kinds {F : Fst} {B A : List Sn} (hB : FitAt F none B) (hA : FitAt F none A) : ∀ n ∈ Sn.all A, ∀ m ∈ Sn.all B, n.num = m.num → kind m = kind n := fun n hn m hm e => by
  obtain ⟨q, hq, rfl⟩ := List.mem_map.mp hn
  obtain ⟨q', hq', rfl⟩ := List.mem_map.mp hm
  rw [(hB.1 q' hq').2.2.1, (hA.1 q hq).2.2.1, e]
end Pw
namespace Pw
open PySem PySem.Spec PyProof.Rows L2
mutual
theorem cnt1 (q : Nat → Bool) : ∀ n : Sn, ((nums (Sn.all n.kids)).filter q).length = ((nums n.kids).filter q).length + ((Sn.all n.kids).map fun n => ((nums n.kids).filter q).length).sum
  | .text _ _ => rfl
  | .input _ _ => rfl
  | .box _ _ ns => cntL q ns
theorem cntL (q : Nat → Bool) : ∀ ns : List Sn, ((nums (Sn.all ns)).filter q).length = ((nums ns).filter q).length + ((Sn.all ns).map fun n => ((nums n.kids).filter q).length).sum
  | [] => rfl
  | n :: r => by
    have a := cnt1 q n
    have b := cntL q r
    have e1 : nums (Sn.all (n :: r)) = n.num :: (nums (Sn.all n.kids) ++ nums (Sn.all r)) := by
      rw [Sn.all_cons]; simp [nums]
    have e2 : nums (n :: r) = n.num :: nums r := rfl
    rw [e1, e2, Sn.all_cons, List.cons_append, List.map_cons, List.sum_cons, List.map_append, List.sum_append]
    by_cases h : q n.num = true
    · rw [List.filter_cons_of_pos h, List.filter_cons_of_pos h, List.filter_append, List.length_cons, List.length_cons, List.length_append]
      omega
    · rw [List.filter_cons_of_neg h, List.filter_cons_of_neg h, List.filter_append, List.length_append]
      omega
end
theorem sum_boxes (g : Sn → Nat) (h : ∀ n, n.isB = false → g n = 0) : ∀ l : List Sn, (l.map g).sum = ((l.filter Sn.isB).map g).sum
  | [] => rfl
  | n :: l => by
    have ih := sum_boxes g h l
    rw [List.map_cons, List.sum_cons, ih]
    cases e : n.isB with
    | true => rw [List.filter_cons_of_pos (by rw [e]), List.map_cons, List.sum_cons]
    | false => rw [List.filter_cons_of_neg (by rw [e]; exact Bool.false_ne_true), h n e, Nat.zero_add]
theorem cnt_fams (q : Nat → Bool) (ns : List Sn) : ((nums (Sn.all ns)).filter q).length = ((famN ns).map fun f => (f.2.filter q).length).sum := by
  rw [cntL, sum_boxes]
  · unfold famN Sn.fams
    rw [List.map_map, List.map_cons, List.sum_cons, List.map_map]
    rfl
  · intro n e
    cases n with
    | box _ _ _ => cases e
    | text _ _ => rfl
    | input _ _ => rfl
def isPO (old : List Nat) (t : T) : Bool := match t with
  | .tup [.str s, .int x, _, _] => decide (s = "put") && decide (x.toNat ∈ old)
  | _ => false
theorem po_puts (old : List Nat) (p : Key0) (st : List Nat) : ∀ (r : List Nat) (b : Key0), ((putsT p st r b).filter (isPO old)).length = (r.filter fun n => decide (n ∉ st) && decide (n ∈ old)).length
  | [], _ => rfl
  | n :: r, b => by
    have ih := po_puts old p st r (some n)
    rw [putsT, List.filter_append, List.length_append, ih]
    by_cases h1 : n ∈ st
    · rw [if_pos h1, List.filter_cons_of_neg (by simp [h1])]
      simp
    · rw [if_neg h1]
      have e : isPO old (.tup [.str "put", .int n, k0T p, k0T b]) = decide (n ∈ old) := by
        show (decide (("put" : Str) = "put") && decide (((n : Nat) : Int).toNat ∈ old)) = _
        simp
      by_cases h2 : n ∈ old
      · rw [List.filter_cons_of_pos (by rw [e]; exact decide_eq_true h2), List.filter_cons_of_pos (by simp [h1, h2])]
        simp; omega
      · rw [List.filter_cons_of_neg (by rw [e]; simp [h2]), List.filter_cons_of_neg (by simp [h2])]
        simp
theorem po_change (old : List Nat) (o : Option Sn) (n : Sn) : (changeT o n).filter (isPO old) = [] := by
  unfold changeT
  cases o with
  | none => cases n <;> rfl
  | some m => cases n <;> cases m <;> simp <;> (intro _; rfl)
theorem po_take (old : List Nat) (B A : List Sn) : (takeT B A).filter (isPO old) = [] := by
  unfold takeT
  refine List.filter_eq_nil_iff.mpr fun t ht => ?_
  obtain ⟨q, _, rfl⟩ := List.mem_map.mp ht
  exact Bool.false_ne_true
theorem filter_flat {α β : Type} (q : β → Bool) (g : α → List β) : ∀ l : List α, ((l.flatMap g).filter q).length = (l.map fun a => ((g a).filter q).length).sum
  | [] => rfl
  | a :: l => by rw [List.flatMap_cons, List.filter_append, List.length_append, filter_flat q g l, List.map_cons, List.sum_cons]
theorem po_patch (old : List Nat) (B A : List Sn) : ((patchT B A).filter (isPO old)).length = ((famN A).map fun f => (f.2.filter fun n => decide (n ∉ stay (earlierOf B f.1) f.2) && decide (n ∈ old)).length).sum := by
  unfold patchT
  rw [List.filter_append, List.filter_append, po_take, List.length_append, List.nil_append, filter_flat, filter_flat]
  have z : ((Sn.all A).map fun n => ((changeT (lastV (numK (Sn.all B)) (some n.num)) n).filter (isPO old)).length).sum = 0 := by
    generalize Sn.all A = l
    induction l with
    | nil => rfl
    | cons a l ih => rw [List.map_cons, List.sum_cons, po_change, ih]; rfl
  rw [z, Nat.zero_add]
  congr 1
  refine List.map_congr_left fun f _ => ?_
  rw [po_puts, List.filter_reverse, List.length_reverse]
theorem sub_filter {α : Type} [DecidableEq α] : ∀ {s l : List α}, s.Sublist l → l.Nodup → l.filter (fun x => decide (x ∈ s)) = s
  | _, _, .slnil, _ => rfl
  | s, _, .cons (l₂ := l) a h, nd => by
    obtain ⟨n1, n2⟩ := List.nodup_cons.mp nd
    rw [List.filter_cons_of_neg (by simpa using fun z => n1 (h.subset z))]
    exact sub_filter h n2
  | _, _, .cons₂ (l₁ := s) (l₂ := l) a h, nd => by
    obtain ⟨n1, n2⟩ := List.nodup_cons.mp nd
    rw [List.filter_cons_of_pos (by simp)]
    congr 1
    rw [← sub_filter h n2]
    refine List.filter_congr fun x hx => ?_
    have : x ≠ a := fun e => n1 (by rw [← e]; exact hx)
    rw [sub_filter h n2]
    simp [this]
theorem stay_common (e l : List Nat) : (stay e l).Sublist (common e l) := by
  rw [stay_grN]
  exact grN_sub _ _ _ _ _
theorem one_fam {F : Fst} (ok : F.Ok) {B A : List Sn} (hB : FitAt F none B) (hA : FitAt F none A) {f : Key0 × List Nat} (hf : f ∈ famN A) :
    (f.2.filter fun n => decide (n ∉ stay (earlierOf B f.1) f.2) && decide (n ∈ nums (Sn.all B))).length + (stay (earlierOf B f.1) f.2).length = (common (earlierOf B f.1) f.2).length ∧
    (f.2.filter fun n => decide (n ∈ nums (Sn.all B))).length = (common (earlierOf B f.1) f.2).length := by
  have ndf := fam_nodup hA f hf
  have e1 : (f.2.filter fun n => decide (n ∈ nums (Sn.all B))) = common (earlierOf B f.1) f.2 := by
    unfold common
    exact List.filter_congr fun x hx => decide_eq_decide.mpr (old_iff ok hB hA hf hx)
  refine ⟨?_, by rw [e1]⟩
  rw [← List.filter_filter, e1]
  have ndc : (common (earlierOf B f.1) f.2).Nodup := List.Sublist.nodup (by unfold common; exact List.filter_sublist) ndf
  have e2 := sub_filter (stay_common (earlierOf B f.1) f.2) ndc
  have e3 : ∀ l : List Nat, (l.filter fun n => decide (n ∉ stay (earlierOf B f.1) f.2)).length + (l.filter fun n => decide (n ∈ stay (earlierOf B f.1) f.2)).length = l.length := fun l => by
    induction l with
    | nil => rfl
    | cons a l ih =>
      by_cases h : a ∈ stay (earlierOf B f.1) f.2
      · rw [List.filter_cons_of_neg (by simpa using h), List.filter_cons_of_pos (by simpa using h), List.length_cons, List.length_cons]; omega
      · rw [List.filter_cons_of_pos (by simpa using h), List.filter_cons_of_neg (by simpa using h), List.length_cons, List.length_cons]; omega
  have := e3 (common (earlierOf B f.1) f.2)
  rw [e2] at this
  exact this
theorem sums (B A : List Sn) : ∀ (fs : List (Key0 × List Nat)) (c d s : Key0 × List Nat → Nat), (∀ f ∈ fs, d f + s f = c f) → (∀ f ∈ fs, c f = (common (earlierOf B f.1) f.2).length ∧ s f = (stay (earlierOf B f.1) f.2).length) →
    (((fs.map d).sum : Nat) : Int) = fewMany B fs ∧ (((fs.map c).sum : Nat) : Int) - (((fs.map s).sum : Nat) : Int) = fewMany B fs
  | [], c, d, s, _, _ => ⟨rfl, rfl⟩
  | f :: fs, c, d, s, h1, h2 => by
    obtain ⟨i1, i2⟩ := sums B A fs c d s (fun x hx => h1 x (List.mem_cons_of_mem _ hx)) fun x hx => h2 x (List.mem_cons_of_mem _ hx)
    have a := h1 f List.mem_cons_self
    obtain ⟨b1, b2⟩ := h2 f List.mem_cons_self
    have e : fewMany B (f :: fs) = (((common (earlierOf B f.1) f.2).length : Int) - ((stay (earlierOf B f.1) f.2).length : Int)) + fewMany B fs := by
      unfold fewMany
      rw [List.map_cons, List.sum_cons]
    rw [e, List.map_cons, List.map_cons, List.map_cons, List.sum_cons, List.sum_cons, List.sum_cons]
    refine ⟨by omega, by omega⟩
theorem few_rows_sum (B : List Sn) : ∀ fs : List (Key0 × List Nat), ((fewRows B fs).map fun f => f.2.length).sum = (fs.map fun f => (stay (earlierOf B f.1) f.2).length).sum
  | [] => rfl
  | f :: fs => by
    have ih := few_rows_sum B fs
    unfold fewRows at ih ⊢
    rw [List.map_cons, List.map_cons, List.sum_cons, ← ih]
    cases h : (stay (earlierOf B f.1) f.2) with
    | nil => rw [List.filter_cons_of_neg (by simp)]; simp
    | cons y ys => rw [List.filter_cons_of_pos (by simp), List.map_cons, List.sum_cons]
/-- the law's two counts -/
theorem counts {F : Fst} (ok : F.Ok) {B A : List Sn} (hB : FitAt F none B) (hA : FitAt F none A) :
    ((((patchT B A).filter (isPO (nums (Sn.all B)))).length : Nat) : Int) = fewMany B (famN A) ∧
    ((((nums (Sn.all A)).filter fun n => decide (n ∈ nums (Sn.all B))).length : Nat) : Int) - ((((fewRows B (famN A)).map fun f => f.2.length).sum : Nat) : Int) = fewMany B (famN A) := by
  rw [po_patch, cnt_fams, few_rows_sum]
  exact sums B A (famN A) (fun f => (f.2.filter fun n => decide (n ∈ nums (Sn.all B))).length) (fun f => (f.2.filter fun n => decide (n ∉ stay (earlierOf B f.1) f.2) && decide (n ∈ nums (Sn.all B))).length) (fun f => (stay (earlierOf B f.1) f.2).length)
    (fun f hf => by rw [(one_fam ok hB hA hf).2]; exact (one_fam ok hB hA hf).1) fun f hf => ⟨(one_fam ok hB hA hf).2, rfl⟩
/-- what an operation looks like -/
def OpOk (t : T) : Prop := (∃ (n : Nat) (p b : T), t = .tup [.str "put", .int n, p, b]) ∨ ∃ (s : Str) (r : List T), t = .tup (.str s :: r) ∧ s ≠ "put"
theorem putsT_ok (p : Key0) (st : List Nat) : ∀ (r : List Nat) (b : Key0), ∀ t ∈ putsT p st r b, OpOk t
  | [], _, t, h => nomatch h
  | n :: r, b, t, h => by
    rw [putsT] at h
    rcases List.mem_append.mp h with h | h
    · split at h
      · cases h
      · rw [List.mem_singleton.mp h]; exact .inl ⟨n, _, _, rfl⟩
    · exact putsT_ok p st r _ t h
theorem patch_ok (B A : List Sn) : ∀ t ∈ patchT B A, OpOk t := fun t ht => by
  unfold patchT at ht
  rcases List.mem_append.mp ht with ht | ht
  · rcases List.mem_append.mp ht with ht | ht
    · obtain ⟨q, _, rfl⟩ := List.mem_map.mp ht
      exact .inr ⟨"take", _, rfl, by decide⟩
    · obtain ⟨n, _, h⟩ := List.mem_flatMap.mp ht
      unfold changeT at h
      cases ho : lastV (numK (Sn.all B)) (some n.num) with
      | none =>
        rw [ho] at h
        rw [List.mem_singleton.mp h]; exact .inr ⟨"make", _, rfl, by decide⟩
      | some m =>
        rw [ho] at h
        cases n with
        | text k s =>
          cases m with
          | text _ s' =>
            have h : t ∈ (if s = s' then [] else [T.tup [.str "text", .int k, .str s]]) := h
            split at h
            · cases h
            · rw [List.mem_singleton.mp h]; exact .inr ⟨"text", _, rfl, by decide⟩
          | input _ _ => cases h
          | box _ _ _ => cases h
        | input k s =>
          cases m with
          | input _ s' =>
            have h : t ∈ (if s = s' then [] else [T.tup [.str "value", .int k, .int s]]) := h
            split at h
            · cases h
            · rw [List.mem_singleton.mp h]; exact .inr ⟨"value", _, rfl, by decide⟩
          | text _ _ => cases h
          | box _ _ _ => cases h
        | box _ _ _ => cases m <;> cases h
  · obtain ⟨f, _, h⟩ := List.mem_flatMap.mp ht
    exact putsT_ok _ _ _ _ t h
theorem few_dep (B A : List Sn) (hA : (Sn.all A).length ≤ 12) : Dep 40 (fewT B A) := by
  have hf : ∀ f ∈ fewRows B (famN A), f.2.length ≤ 12 := fun f hf => by
    obtain ⟨g, hg, rfl⟩ := List.mem_map.mp (List.mem_filter.mp hf).1
    have h1 := (stay_sub (earlierOf B g.1) g.2).length_le
    have h2 := famN_len hg
    show (stay (earlierOf B g.1) g.2).length ≤ 12
    omega
  have hl : (fewRows B (famN A)).length ≤ 13 := by
    have h1 := famN_many A
    have h2 : (fewRows B (famN A)).length ≤ (famN A).length := by
      unfold fewRows
      exact Nat.le_trans (List.length_filter_le _ _) (Nat.le_of_eq (List.length_map _))
    omega
  refine .tup 39 _ (by simp) fun t ht => ?_
  rcases List.mem_cons.mp ht with rfl | ht
  · exact .int 38 _
  · rw [List.mem_singleton.mp ht]
    refine .tup 38 _ (by rw [List.length_map]; omega) fun t ht => ?_
    obtain ⟨f, hf', rfl⟩ := List.mem_map.mp ht
    refine .tup 37 _ (by simp) fun t ht => ?_
    rcases List.mem_cons.mp ht with rfl | ht
    · cases f.1 with
      | none => exact .non 36
      | some k => exact .int 36 _
    · rw [List.mem_singleton.mp ht]
      refine .tup 36 _ (by unfold intI; rw [List.length_map, List.length_map]; have := hf f hf'; omega) fun t ht => ?_
      obtain ⟨i, _, rfl⟩ := List.mem_map.mp ht
      exact .int 35 _
end Pw
namespace Pw
def insR (row : List Nat) (x : Nat) : Option Nat → List Nat
  | none => row ++ [x]
  | some y => row.take (row.idxOf y) ++ x :: row.drop (row.idxOf y)
def doPuts (st : List Nat) : List Nat → Option Nat → List Nat → List Nat
  | [], _, row => row
  | x :: r, b, row => doPuts st r (some x) (if x ∈ st then row else insR (row.erase x) x b)
theorem split_one {α : Type} {y : α} : ∀ {a c d e : List α}, a ++ y :: c = d ++ y :: e → y ∉ a → y ∉ d → a = d ∧ c = e
  | [], c, [], e, h, _, _ => ⟨rfl, by injection h⟩
  | [], c, z :: d, e, h, _, n => by
    injection h with h1 h2
    exact absurd (by rw [h1]; exact List.mem_cons_self) n
  | z :: a, c, [], e, h, n, _ => by
    injection h with h1 h2
    exact absurd (by rw [← h1]; exact List.mem_cons_self) n
  | z :: a, c, w :: d, e, h, n, m => by
    injection h with h1 h2
    obtain ⟨i1, i2⟩ := split_one h2 (fun k => n (List.mem_cons_of_mem _ k)) fun k => m (List.mem_cons_of_mem _ k)
    exact ⟨by rw [h1, i1], i2⟩
theorem erase_filter (p : Nat → Bool) (x : Nat) (hx : p x = false) : ∀ l : List Nat, (l.erase x).filter p = l.filter p
  | [] => rfl
  | a :: l => by
    by_cases h : a = x
    · subst h
      rw [List.erase_cons_head, List.filter_cons_of_neg (by rw [hx]; exact Bool.false_ne_true)]
    · rw [List.erase_cons_tail (by simpa using h)]
      by_cases hp : p a = true
      · rw [List.filter_cons_of_pos hp, List.filter_cons_of_pos hp, erase_filter p x hx l]
      · rw [List.filter_cons_of_neg hp, List.filter_cons_of_neg hp, erase_filter p x hx l]
theorem idx_split {l : List Nat} {y : Nat} (h : y ∈ l) : ∃ a c, l = a ++ y :: c ∧ l.take (l.idxOf y) = a ∧ l.drop (l.idxOf y) = y :: c := by
  have hi : l.idxOf y < l.length := List.idxOf_lt_length_of_mem h
  refine ⟨l.take (l.idxOf y), l.drop (l.idxOf y + 1), ?_, rfl, ?_⟩
  · have := List.drop_eq_getElem_cons hi
    rw [List.getElem_idxOf] at this
    rw [← this, List.take_append_drop]
  · have := List.drop_eq_getElem_cons hi
    rw [List.getElem_idxOf] at this
    exact this
/-- the row behind the puts of a suffix -/
structure PutI (L T S W : List Nat) : Prop where
  nd : W.Nodup
  sub : ∀ x ∈ W, x ∈ L
  has : ∀ x ∈ S, x ∈ W
  st : ∀ x ∈ T, x ∈ W
  eq : W.filter (fun n => decide (n ∈ T) || decide (n ∈ S)) = L.filter fun n => decide (n ∈ T) || decide (n ∈ S)
theorem put_step {L T P S W : List Nat} {x : Nat} (hL : L = P ++ x :: S) (nd : L.Nodup) (hT : ∀ t ∈ T, t ∈ L) (I : PutI L T S W) : PutI L T (x :: S) (if x ∈ T then W else insR (W.erase x) x S.head?) := by
  have nd2 := nd
  rw [hL] at nd2
  obtain ⟨nP, nx, dj⟩ := List.nodup_append.mp nd2
  obtain ⟨nxS, nS⟩ := List.nodup_cons.mp nx
  have xP : x ∉ P := fun h => dj x h x List.mem_cons_self rfl
  by_cases c : x ∈ T
  · rw [if_pos c]
    have e : (fun n => decide (n ∈ T) || decide (n ∈ x :: S)) = fun n => decide (n ∈ T) || decide (n ∈ S) := funext fun n => by
      by_cases h : n = x
      · subst h; simp [c]
      · simp [h]
    refine ⟨I.nd, I.sub, fun y hy => ?_, I.st, by rw [e]; exact I.eq⟩
    rcases List.mem_cons.mp hy with rfl | h
    · exact I.st _ c
    · exact I.has y h
  · rw [if_neg c]
    obtain ⟨p, hp⟩ : ∃ p : Nat → Bool, p = fun n => decide (n ∈ T) || decide (n ∈ S) := ⟨_, rfl⟩
    have px : p x = false := by rw [hp]; simp [c, nxS]
    have ep : (fun n => decide (n ∈ T) || decide (n ∈ x :: S)) = fun n => p n || decide (n = x) := funext fun n => by
      rw [hp]
      by_cases h : n = x <;> simp [h, Bool.or_comm, Bool.or_assoc, Bool.or_left_comm]
    have eqW := I.eq
    rw [← hp] at eqW
    have e1 : (W.erase x).filter p = L.filter p := by rw [erase_filter p x px, eqW]
    have nd1 : (W.erase x).Nodup := I.nd.erase x
    have x1 : x ∉ W.erase x := List.Nodup.not_mem_erase I.nd
    have sub1 : ∀ y ∈ W.erase x, y ∈ L := fun y hy => I.sub y (List.mem_of_mem_erase hy)
    have has1 : ∀ y ∈ S, y ∈ W.erase x := fun y hy => (List.mem_erase_of_ne fun e => nxS (by rw [← e]; exact hy)).mpr (I.has y hy)
    have st1 : ∀ y ∈ T, y ∈ W.erase x := fun y hy => (List.mem_erase_of_ne fun e => c (by rw [← e]; exact hy)).mpr (I.st y hy)
    generalize W.erase x = V at e1 nd1 x1 sub1 has1 st1
    have xL : x ∈ L := by rw [hL]; simp
    have fx : ∀ l : List Nat, x ∉ l → l.filter (fun n => p n || decide (n = x)) = l.filter p := fun l hl => List.filter_congr fun n hn => by
      have : n ≠ x := fun e => hl (by rw [← e]; exact hn)
      simp [this]
    have fxx : ∀ l : List Nat, (x :: l).filter (fun n => p n || decide (n = x)) = x :: l.filter (fun n => p n || decide (n = x)) := fun l => by rw [List.filter_cons]; simp
    have eL : L.filter (fun n => p n || decide (n = x)) = P.filter p ++ x :: S.filter p := by
      rw [hL, List.filter_append, fxx, fx P xP, fx S nxS]
    have eL0 : L.filter p = P.filter p ++ S.filter p := by
      rw [hL, List.filter_append, List.filter_cons_of_neg (by rw [px]; exact Bool.false_ne_true)]
    cases S with
    | nil =>
      have em : insR V x ([] : List Nat).head? = V ++ [x] := rfl
      rw [em]
      refine ⟨List.nodup_append.mpr ⟨nd1, List.pairwise_singleton _ _, fun u hu v hv e => x1 (by rw [← List.mem_singleton.mp hv, ← e]; exact hu)⟩, fun y hy => ?_, fun y hy => ?_, fun y hy => List.mem_append_left _ (st1 y hy), ?_⟩
      · rcases List.mem_append.mp hy with h | h
        · exact sub1 y h
        · rw [List.mem_singleton.mp h]; exact xL
      · rw [List.mem_singleton.mp hy]; simp
      · rw [ep, eL, List.filter_append, fx V x1, e1, eL0]
        simp
    | cons y S1 =>
      have yV : y ∈ V := has1 y List.mem_cons_self
      obtain ⟨a, d, e2, e3, e4⟩ := idx_split yV
      have em : insR V x (y :: S1).head? = a ++ x :: y :: d := by
        show V.take (V.idxOf y) ++ x :: V.drop (V.idxOf y) = _
        rw [e3, e4]
      rw [em]
      have py : p y = true := by rw [hp]; simp
      have ndV := nd1
      rw [e2] at ndV x1
      obtain ⟨na, nyd, dja⟩ := List.nodup_append.mp ndV
      have xa : x ∉ a := fun h => x1 (List.mem_append_left _ h)
      have xd : x ∉ y :: d := fun h => x1 (List.mem_append_right _ h)
      have memV : ∀ z, z ∈ a ++ x :: y :: d ↔ z = x ∨ z ∈ V := fun z => by
        rw [e2]
        simp only [List.mem_append, List.mem_cons]
        constructor
        · rintro (h | h | h | h)
          · exact .inr (.inl h)
          · exact .inl h
          · exact .inr (.inr (.inl h))
          · exact .inr (.inr (.inr h))
        · rintro (h | h | h | h)
          · exact .inr (.inl h)
          · exact .inl h
          · exact .inr (.inr (.inl h))
          · exact .inr (.inr (.inr h))
      refine ⟨List.nodup_append.mpr ⟨na, List.nodup_cons.mpr ⟨xd, nyd⟩, fun u hu v hv e => ?_⟩, fun z hz => ?_, fun z hz => ?_, fun z hz => (memV z).mpr (.inr (st1 z hz)), ?_⟩
      · rcases List.mem_cons.mp hv with h | h
        · exact xa (by rw [← h, ← e]; exact hu)
        · exact dja u hu v h e
      · rcases (memV z).mp hz with h | h
        · rw [h]; exact xL
        · exact sub1 z h
      · rcases List.mem_cons.mp hz with h | h
        · exact (memV z).mpr (.inl h)
        · exact (memV z).mpr (.inr (has1 z h))
      · rw [ep, eL, List.filter_append, fxx, fx a xa, fx (y :: d) xd]
        rw [e2, List.filter_append, List.filter_cons_of_pos py, eL0, List.filter_cons_of_pos py] at e1
        have ya : y ∉ a.filter p := fun h => dja y (List.mem_filter.mp h).1 y List.mem_cons_self rfl
        have yP : y ∉ P.filter p := fun h => dj y (List.mem_filter.mp h).1 y (by simp) rfl
        obtain ⟨i1, i2⟩ := split_one e1 ya yP
        rw [List.filter_cons_of_pos py, List.filter_cons_of_pos py, i1, i2]
theorem puts_go {L T : List Nat} (nd : L.Nodup) (hT : ∀ t ∈ T, t ∈ L) : ∀ (r S W : List Nat), L = r.reverse ++ S → PutI L T S W → doPuts T r S.head? W = L
  | [], S, W, hL, I => by
    have hL : L = S := by simpa using hL
    have h1 : W.filter (fun n => decide (n ∈ T) || decide (n ∈ S)) = W := List.filter_eq_self.mpr fun n hn => by
      have := I.sub n hn
      rw [hL] at this
      simp [this]
    have h2 : L.filter (fun n => decide (n ∈ T) || decide (n ∈ S)) = L := List.filter_eq_self.mpr fun n hn => by
      rw [hL] at hn
      simp [hn]
    have := I.eq
    rw [h1, h2] at this
    exact this
  | x :: r, S, W, hL, I => by
    have hL' : L = r.reverse ++ x :: S := by rw [hL, List.reverse_cons, List.append_assoc]; rfl
    exact puts_go nd hT r (x :: S) _ hL' (put_step hL' nd hT I)
/-- the puts make the later row of the row that is there -/
theorem puts_row {L T R : List Nat} (nd : L.Nodup) (ndR : R.Nodup) (hR : ∀ x ∈ R, x ∈ L) (sL : T.Sublist L) (sR : T.Sublist R) : doPuts T L.reverse none R = L := by
  refine puts_go nd (fun t ht => sL.subset ht) L.reverse [] R (by simp) ⟨ndR, hR, (fun x h => nomatch h), fun t ht => sR.subset ht, ?_⟩
  have sub : ∀ {l : List Nat}, T.Sublist l → l.Nodup → l.filter (fun n => decide (n ∈ T) || decide (n ∈ ([] : List Nat))) = T := fun {l} s n => by
    have e : (fun n => decide (n ∈ T) || decide (n ∈ ([] : List Nat))) = fun n => decide (n ∈ T) := funext fun n => by simp
    rw [e]
    exact sub_filter s n
  rw [sub sR ndR, sub sL nd]
end Pw
namespace Pw
open PySem PySem.Spec PyProof.Rows L2
def setF {α : Type} (f : Key0 → Option α) (k : Key0) (o : Option α) : Key0 → Option α := fun j => if j = k then o else f j
theorem setF_same {α : Type} {f : Key0 → Option α} {k : Key0} {o : Option α} : setF f k o k = o := if_pos rfl
theorem setF_ne {α : Type} {f : Key0 → Option α} {k j : Key0} {o : Option α} (h : j ≠ k) : setF f k o j = f j := if_neg h
theorem valV_dropL : ∀ {kvs : List (Leaf × V)} {k j : Leaf}, valV (dropK kvs k) j = if j = k then none else valV kvs j
  | [], k, j => by
    show valV [] j = _
    split <;> rfl
  | p :: r, k, j => by
    by_cases e : p.1 = k
    · rw [dropK_pos e, valV_dropL]
      by_cases c : j = k
      · rw [if_pos c, if_pos c]
      · rw [if_neg c, if_neg c, valV_neg (fun z => c (z.symm.trans e))]
    · rw [dropK_neg e]
      by_cases d : p.1 = j
      · rw [valV_pos d, valV_pos d, if_neg (fun c => e (d.trans c))]
      · rw [valV_neg d, valV_neg d, valV_dropL]
/-- a dict, as what it gives for each key, with at most n keys -/
def DicF (P : Program) (w : World) (H : Hp) (a : Addr) {α : Type} (R : α → V → Prop) (f : Key0 → Option α) (n : Nat) : Prop :=
  ∃ kvs, DL P w H a kvs ∧ kvs.length ≤ n ∧ ∀ k, match f k with
    | none => valV kvs (k0L k) = none
    | some x => ∃ v, valV kvs (k0L k) = some v ∧ R x v
section
variable {P : Program} {w : World} {H H' : Hp} {a : Addr} {α β : Type} {R R' : α → V → Prop} {f f' : Key0 → Option α} {S : List Addr} {n m : Nat}
theorem DicL.toF {l : List (Key0 × α)} (h : DicL P w H a R l) : DicF P w H a R (lastV l) l.length := h
theorem DicF.oth (h : DicF P w H a R f n) (o : Oth S H H') (x : a ∉ S) : DicF P w H' a R f n := by
  obtain ⟨kvs, d, r⟩ := h
  exact ⟨kvs, d.oth o x, r⟩
theorem DicF.imp (h : DicF P w H a R f n) (g : ∀ x v, R x v → R' x v) : DicF P w H a R' f n := by
  obtain ⟨kvs, d, n, r⟩ := h
  refine ⟨kvs, d, n, fun k => ?_⟩
  have := r k
  revert this
  cases f k with
  | none => exact id
  | some x => exact fun ⟨v, e, q⟩ => ⟨v, e, g _ _ q⟩
theorem DicF.mono (h : DicF P w H a R f n) (l : n ≤ m) : DicF P w H a R f m := by
  obtain ⟨kvs, d, n, r⟩ := h
  exact ⟨kvs, d, Nat.le_trans n l, r⟩
theorem DicF.same (h : DicF P w H a R f n) (e : ∀ k, f' k = f k) : DicF P w H a R f' n := by
  rw [show f' = f from funext e]; exact h
theorem DicF.map (h : DicF P w H a (fun x v => R (x) v) f n) : DicF P w H a R f n := h
theorem DicF.ne {b : Addr} (h : DicF P w H a R f n) (x : H b = none) : a ≠ b := by
  obtain ⟨kvs, d, _⟩ := h
  exact d.ne x
theorem DicF.is (h : DicF P w H a R f n) : ∃ φ, H a = some (.ext φ) := by
  obtain ⟨kvs, d, _⟩ := h
  exact d.is
theorem DicF.nil (d : DL P w H a []) : DicF P w H a R (fun _ => none) n := ⟨[], d, Nat.zero_le _, fun k => rfl⟩
theorem DicF.put {j : Key0} {x : α} {v : V} {Q : Hp → Prop} (h : DicF P w H a R f n) (hl : n < sizeLine) (r : R x v) (q : ∀ H', Oth [a] H H' → DicF P w H' a R (setF f j (some x)) (n + 1) → Q H') :
    rSetL P w (.ref a) (k0V j) v H Q := by
  obtain ⟨kvs, d, n, rr⟩ := h
  refine ⟨a, k0L j, kvs, rfl, k0V_lf j, d, Nat.lt_of_le_of_lt n hl, fun H' o d' => q H' o ⟨_, d', ?_, fun k => ?_⟩⟩
  · have := length_putK kvs (k0L j) v
    omega
  · rw [valV_put]
    by_cases e : k = j
    · subst e
      rw [setF_same, if_pos rfl]
      exact ⟨v, rfl, r⟩
    · rw [setF_ne e, if_neg fun z => e (k0L_inj z)]
      exact rr k
theorem DicF.inD (h : DicF P w H a R f n) (k : Key0) (neg : Bool) {Q : VK} (q : Q (.bl (if neg then !(f k).isSome else (f k).isSome)) H) : rInL P w neg (k0V k) (.ref a) H Q := by
  obtain ⟨kvs, d, n, r⟩ := h
  refine ⟨a, k0L k, kvs, k0V_lf k, rfl, d, ?_⟩
  have := r k
  have e : (valV kvs (k0L k)).isSome = (f k).isSome := by
    revert this
    cases f k with
    | none => intro e; rw [e]; rfl
    | some x => intro ⟨v, e, _⟩; rw [e]; rfl
  rw [e]
  exact q
theorem DicF.at (h : DicF P w H a R f n) {k : Key0} {x : α} (e : f k = some x) {Q : VK} (q : ∀ v, R x v → Q v H) : rIxD P w (.ref a) (k0V k) H Q := by
  obtain ⟨kvs, d, n, r⟩ := h
  have := r k
  rw [e] at this
  obtain ⟨v, e', rv⟩ := this
  exact ⟨a, k0L k, kvs, v, k0V_lf k, rfl, d, e', q v rv⟩
/-- a key goes -/
theorem DicF.del {k : Key0} {x : α} {Q : Hp → Prop} (h : DicF P w H a R f n) (e : f k = some x) (q : ∀ H', Oth [a] H H' → DicF P w H' a R (setF f k none) n → Q H') :
    ∃ kvs l, V.ref a = .ref a ∧ DL P w H a kvs ∧ k0V k = lfV l ∧ (valV kvs l).isSome = true ∧ ∀ H', Oth [a] H H' → DL P w H' a (dropK kvs l) → Q H' := by
  obtain ⟨kvs, d, n, r⟩ := h
  refine ⟨kvs, k0L k, rfl, d, k0V_lf k, ?_, fun H' o d' => q H' o ⟨_, d', Nat.le_trans (dropK_le _ _) n, fun j => ?_⟩⟩
  · have := r k
    rw [e] at this
    obtain ⟨v, e', _⟩ := this
    rw [e']; rfl
  · rw [valV_dropL]
    by_cases c : j = k
    · subst c
      rw [setF_same, if_pos rfl]
    · rw [setF_ne c, if_neg fun z => c (k0L_inj z)]
      exact r j
end
theorem DicF.of_map {P : Program} {w : World} {H : Hp} {a : Addr} {α β : Type} {R : α → V → Prop} {R' : β → V → Prop} {f : Key0 → Option α} {f' : Key0 → Option β} {n : Nat} (h : DicF P w H a R f n)
    (g : ∀ k, (f k = none ∧ f' k = none) ∨ ∃ x y, f k = some x ∧ f' k = some y ∧ ∀ v, R x v → R' y v) : DicF P w H a R' f' n := by
  obtain ⟨kvs, d, n, r⟩ := h
  refine ⟨kvs, d, n, fun k => ?_⟩
  have := r k
  rcases g k with ⟨e1, e2⟩ | ⟨x, y, e1, e2, z⟩
  · rw [e1] at this; rw [e2]; exact this
  · rw [e1] at this
    rw [e2]
    obtain ⟨v, e, q⟩ := this
    exact ⟨v, e, z v q⟩
/-! ### the model -/
structure Gw where
  bare : Key0 → Option Sn
  rows : Key0 → Option (List Nat)
  around : Key0 → Option Key0
inductive Op where
  | take (n : Nat) | text (n : Nat) (s : Str) | value (n : Nat) (v : Int) | make (m : Sn) | put (n : Nat) (p b : Key0)
def Op.toT : Op → T
  | .take n => .tup [.str "take", .int n]
  | .text n s => .tup [.str "text", .int n, .str s]
  | .value n v => .tup [.str "value", .int n, .int v]
  | .make m => .tup [.str "make", m.toT]
  | .put n p b => .tup [.str "put", .int n, k0T p, k0T b]
def Gw.leave (g : Gw) (n : Nat) : Gw := match g.around (some n) with
  | none => g
  | some p => { g with rows := setF g.rows p ((g.rows p).map (·.erase n)), around := setF g.around (some n) none }
def Gw.put (g : Gw) (n : Nat) (p b : Key0) : Gw := { g with rows := setF g.rows p ((g.rows p).map fun l => insR l n b), around := setF g.around (some n) (some p) }
def Gw.step (g : Gw) : Op → Gw
  | .take n => g.leave n
  | .text n s => { g with bare := setF g.bare (some n) (some (.text n s)) }
  | .value n v => { g with bare := setF g.bare (some n) (some (.input n v)) }
  | .make m => { g with bare := setF g.bare (some m.num) (some m), rows := if m.isB then setF g.rows (some m.num) (some []) else g.rows }
  | .put n p b => (g.leave n).put n p b
def Gw.LeaveOk (g : Gw) (n : Nat) : Prop := ∀ p, g.around (some n) = some p → ∃ l, g.rows p = some l ∧ n ∈ l
def Gw.PutOk (g : Gw) (p b : Key0) : Prop := ∃ l, g.rows p = some l ∧ ∀ y, b = some y → y ∈ l
def Gw.Ok (g : Gw) : Op → Prop
  | .take n => g.LeaveOk n
  | .text _ _ => True
  | .value n _ => ∃ v, g.bare (some n) = some (.input n v)
  | .make m => True
  | .put n p b => g.LeaveOk n ∧ (g.leave n).PutOk p b
def Gw.start (B : List Sn) : Gw := ⟨fun k => (lastV (numK (Sn.all B)) k).map Sn.bare, lastV (famN B), lastV ((Sn.lst none B).map fun q => (some q.2.num, q.1))⟩
/-- the operations can be done, one after the other -/
def Gw.Runs : Gw → List Op → Prop
  | _, [] => True
  | g, op :: ops => g.Ok op ∧ (g.step op).Runs ops
def Gw.run (g : Gw) (ops : List Op) : Gw := ops.foldl Gw.step g
theorem Gw.runs_app : ∀ {g : Gw} {a b : List Op}, g.Runs a → (g.run a).Runs b → g.Runs (a ++ b)
  | _, [], _, _, h => h
  | _, _ :: _, _, h1, h2 => ⟨h1.1, Gw.runs_app h1.2 h2⟩
theorem Gw.run_app (g : Gw) (a b : List Op) : g.run (a ++ b) = (g.run a).run b := List.foldl_append
theorem Gw.runs_at : ∀ {g : Gw} {ops : List Op} {i : Nat} {op : Op}, g.Runs ops → ops[i]? = some op → (g.run (ops.take i)).Ok op
  | _, [], _, _, _, e => by simp at e
  | _, _ :: _, 0, _, h, e => by cases e; exact h.1
  | g, op :: ops, i + 1, _, h, e => by
    have := Gw.runs_at (g := g.step op) (ops := ops) (i := i) h.2 e
    exact this
/-- what is in the tree -/
def Gw.Node (g : Gw) (q : Sn) : Prop := g.bare (some q.num) = some q.bare ∧ g.rows (some q.num) = if q.isB then some (nums q.kids) else none
def Gw.Grows (g : Gw) (p : Key0) (ns : List Sn) : Prop := g.rows p = some (nums ns) ∧ ∀ q ∈ Sn.all ns, g.Node q
theorem Sn.kids_mem {ns : List Sn} {n q : Sn} (h : n ∈ ns) (hq : q ∈ Sn.all n.kids) : q ∈ Sn.all ns := by
  induction ns with
  | nil => cases h
  | cons m r ih =>
    rw [Sn.all_cons]
    rcases List.mem_cons.mp h with rfl | h
    · exact List.mem_append_left _ (List.mem_cons_of_mem _ hq)
    · exact List.mem_append_right _ (ih h)
theorem Sn.mem_all {ns : List Sn} {n : Sn} (h : n ∈ ns) : n ∈ Sn.all ns := by
  induction ns with
  | nil => cases h
  | cons m r ih =>
    rw [Sn.all_cons]
    rcases List.mem_cons.mp h with rfl | h
    · exact List.mem_append_left _ List.mem_cons_self
    · exact List.mem_append_right _ (ih h)
theorem Gw.Grows.kid {g : Gw} {p : Key0} {ns : List Sn} {k : Nat} {t : Str} {is : List Sn} (h : g.Grows p ns) (m : Sn.box k t is ∈ ns) : g.Grows (some k) is :=
  ⟨(h.2 _ (Sn.mem_all m)).2, fun q hq => h.2 q (Sn.kids_mem m hq)⟩
/-! ### the object -/
theorem g_br : ¬ ("bare" : Str) = "rows" := by decide +kernel
theorem g_ba : ¬ ("bare" : Str) = "around" := by decide +kernel
theorem g_ra : ¬ ("rows" : Str) = "around" := by decide +kernel
def gFlds (db dr da : Addr) : List (Str × V) := [("bare", .ref db), ("rows", .ref dr), ("around", .ref da)]
section
variable {db dr da : Addr}
theorem gF_b : (gFlds db dr da).lookup ("bare" : Str) = some (.ref db) := lkp_hd
theorem gF_r : (gFlds db dr da).lookup ("rows" : Str) = some (.ref dr) := (lkp_tl (fun z => g_br z.symm)).trans lkp_hd
theorem gF_a : (gFlds db dr da).lookup ("around" : Str) = some (.ref da) := (lkp_tl (fun z => g_ba z.symm)).trans ((lkp_tl (fun z => g_ra z.symm)).trans lkp_hd)
theorem gF_put : putF "around" (.ref da) [("bare", .ref db), ("rows", .ref dr)] = gFlds db dr da := (putF_tl g_ba).trans (congrArg _ ((putF_tl g_ra).trans (congrArg _ putF_nil)))
theorem gF_no {m : Str} (h1 : ¬ m = "bare") (h2 : ¬ m = "rows") (h3 : ¬ m = "around") : (gFlds db dr da).lookup m = none :=
  (lkp_tl h1).trans ((lkp_tl h2).trans ((lkp_tl h3).trans rfl))
end
/-- the object, made since H0 -/
structure GrowAt (P : Program) (w : World) (C : Addr) (H0 H : Hp) (s db dr da : Addr) (ad : Key0 → Addr) (g : Gw) (N : Nat) : Prop where
  oth : Oth [] H0 H
  ob : ∃ dx, H s = some (.ins C dx (gFlds db dr da))
  bare : DicF P w H db (fun (m : Sn) v => IsT H m.toT v) g.bare N
  rows : DicF P w H dr (fun (a : Addr) v => v = .ref a) (fun k => (g.rows k).map fun _ => ad k) N
  around : DicF P w H da (fun (p : Key0) v => v = k0V p) g.around N
  lists : ∀ k l, g.rows k = some l → H (ad k) = some (.lst (intL l)) ∧ l.length ≤ N ∧ H0 (ad k) = none
  inj : ∀ k k' l l', g.rows k = some l → g.rows k' = some l' → ad k = ad k' → k = k'
  nb : H0 db = none
  nr : H0 dr = none
  na : H0 da = none
  br : db ≠ dr
  ba : db ≠ da
  ra : dr ≠ da
  small : N ≤ 100000
section
variable {P : Program} {w : World} {C : Addr} {H0 H H' : Hp} {s db dr da : Addr} {ad : Key0 → Addr} {g : Gw} {N M : Nat}
theorem GrowAt.to (h : GrowAt P w C H0 H s db dr da ad g N) (o : Oth [] H H') : GrowAt P w C H0 H' s db dr da ad g N := by
  obtain ⟨dx, e⟩ := h.ob
  exact ⟨h.oth.trans o, ⟨dx, o.keep _ _ (by simp) e⟩, (h.bare.oth o (by simp)).imp fun _ _ t => t.oth o, h.rows.oth o (by simp), h.around.oth o (by simp), fun k l e => ⟨o.keep _ _ (by simp) (h.lists k l e).1, (h.lists k l e).2⟩, h.inj, h.nb, h.nr, h.na, h.br, h.ba, h.ra, h.small⟩
theorem GrowAt.mono (h : GrowAt P w C H0 H s db dr da ad g N) (l : N ≤ M) (u : M ≤ 100000) : GrowAt P w C H0 H s db dr da ad g M :=
  ⟨h.oth, h.ob, h.bare.mono l, h.rows.mono l, h.around.mono l, fun k z e => ⟨(h.lists k z e).1, Nat.le_trans (h.lists k z e).2.1 l, (h.lists k z e).2.2⟩, h.inj, h.nb, h.nr, h.na, h.br, h.ba, h.ra, u⟩
/-- a list is none of the others -/
theorem GrowAt.apart (h : GrowAt P w C H0 H s db dr da ad g N) {k : Key0} {l : List Nat} (e : g.rows k = some l) : ad k ≠ s ∧ ad k ≠ db ∧ ad k ≠ dr ∧ ad k ≠ da := by
  have hl := (h.lists k l e).1
  obtain ⟨dx, eo⟩ := h.ob
  obtain ⟨_, e1⟩ := h.bare.is
  obtain ⟨_, e2⟩ := h.rows.is
  obtain ⟨_, e3⟩ := h.around.is
  exact ⟨ne_of hl eo (fun z => nomatch z), ne_of hl e1 (fun z => nomatch z), ne_of hl e2 (fun z => nomatch z), ne_of hl e3 (fun z => nomatch z)⟩
theorem GrowAt.selfs (h : GrowAt P w C H0 H s db dr da ad g N) : s ≠ db ∧ s ≠ dr ∧ s ≠ da := by
  obtain ⟨dx, eo⟩ := h.ob
  obtain ⟨_, e1⟩ := h.bare.is
  obtain ⟨_, e2⟩ := h.rows.is
  obtain ⟨_, e3⟩ := h.around.is
  exact ⟨ne_of eo e1 (fun z => nomatch z), ne_of eo e2 (fun z => nomatch z), ne_of eo e3 (fun z => nomatch z)⟩
/-- a list is written over -/
theorem GrowAt.row (h : GrowAt P w C H0 H s db dr da ad g N) {k : Key0} {l l' : List Nat} (e : g.rows k = some l) (hl : l'.length ≤ N) :
    GrowAt P w C H0 (upd H (ad k) (.lst (intL l'))) s db dr da ad { g with rows := setF g.rows k (some l') } N := by
  obtain ⟨n1, n2, n3, n4⟩ := h.apart e
  obtain ⟨e1, e2, e3⟩ := h.lists k l e
  have o : Oth [ad k] H (upd H (ad k) (.lst (intL l'))) := Oth.put (by simp) e1
  obtain ⟨dx, eo⟩ := h.ob
  refine ⟨Oth.drop ((h.oth.mono (S' := [ad k]) (by simp)).trans o) e3, ⟨dx, o.keep _ _ (by simp [n1.symm]) eo⟩, (h.bare.oth o (by simp [n2.symm])).imp fun _ _ t => t.oth o, (h.rows.oth o (by simp [n3.symm])).same fun j => ?_, h.around.oth o (by simp [n4.symm]), fun j z ej => ?_, fun j j' z z' ej ej' ea => ?_, h.nb, h.nr, h.na, h.br, h.ba, h.ra, h.small⟩
  · by_cases c : j = k
    · subst c
      show (setF g.rows j (some l') j).map _ = _
      rw [setF_same, e]; rfl
    · show (setF g.rows k (some l') j).map _ = _
      rw [setF_ne c]
  · by_cases c : j = k
    · subst c
      have ej : setF g.rows j (some l') j = some z := ej
      rw [setF_same] at ej
      cases ej
      exact ⟨upd_same, hl, e3⟩
    · have ej : setF g.rows k (some l') j = some z := ej
      rw [setF_ne c] at ej
      obtain ⟨f1, f2, f3⟩ := h.lists j z ej
      refine ⟨o.keep _ _ ?_ f1, f2, f3⟩
      intro m
      exact c (h.inj j k z l ej e (List.mem_singleton.mp m))
  · have back : ∀ j z, setF g.rows k (some l') j = some z → ∃ z, g.rows j = some z := fun j z q => by
      by_cases c : j = k
      · exact ⟨l, by rw [c]; exact e⟩
      · rw [setF_ne c] at q; exact ⟨z, q⟩
    obtain ⟨y, hy⟩ := back j z ej
    obtain ⟨y', hy'⟩ := back j' z' ej'
    exact h.inj j j' y y' hy hy' ea
/-- the dict of what is around is another -/
theorem GrowAt.ar (h : GrowAt P w C H0 H s db dr da ad g N) {f : Key0 → Option Key0} (o : Oth [da] H H') (d : DicF P w H' da (fun (p : Key0) v => v = k0V p) f M) (l : N ≤ M) (u : M ≤ 100000) :
    GrowAt P w C H0 H' s db dr da ad { g with around := f } M := by
  obtain ⟨dx, eo⟩ := h.ob
  obtain ⟨n1, n2, n3⟩ := h.selfs
  refine ⟨Oth.drop ((h.oth.mono (S' := [da]) (by simp)).trans o) h.na, ⟨dx, o.keep _ _ (by simp [n3]) eo⟩, ((h.bare.oth o (by simp [h.ba])).imp fun _ _ t => t.oth o).mono l, (h.rows.oth o (by simp [h.ra])).mono l, d, fun j z ej => ?_, h.inj, h.nb, h.nr, h.na, h.br, h.ba, h.ra, u⟩
  obtain ⟨f1, f2, f3⟩ := h.lists j z ej
  exact ⟨o.keep _ _ (by simp [(h.apart ej).2.2.2]) f1, Nat.le_trans f2 l, f3⟩
/-- the dict of the bare nodes is another -/
theorem GrowAt.ba' (h : GrowAt P w C H0 H s db dr da ad g N) {f : Key0 → Option Sn} (o : Oth [db] H H') (d : DicF P w H' db (fun (m : Sn) v => IsT H' m.toT v) f M) (l : N ≤ M) (u : M ≤ 100000) :
    GrowAt P w C H0 H' s db dr da ad { g with bare := f } M := by
  obtain ⟨dx, eo⟩ := h.ob
  obtain ⟨n1, n2, n3⟩ := h.selfs
  refine ⟨Oth.drop ((h.oth.mono (S' := [db]) (by simp)).trans o) h.nb, ⟨dx, o.keep _ _ (by simp [n1]) eo⟩, d, (h.rows.oth o (by simp [h.br.symm])).mono l, (h.around.oth o (by simp [h.ba.symm])).mono l, fun j z ej => ?_, h.inj, h.nb, h.nr, h.na, h.br, h.ba, h.ra, u⟩
  obtain ⟨f1, f2, f3⟩ := h.lists j z ej
  exact ⟨o.keep _ _ (by simp [(h.apart ej).2.1]) f1, Nat.le_trans f2 l, f3⟩
/-- a new empty row -/
theorem GrowAt.fresh (h : GrowAt P w C H0 H s db dr da ad g N) {k : Key0} {p : Addr} (hp0 : H0 p = none) (hp : H p = some (.lst [])) (hu : ∀ j l, g.rows j = some l → ad j ≠ p) (o : Oth [dr] H H')
    (d : DicF P w H' dr (fun (a : Addr) v => v = .ref a) (setF (fun k => (g.rows k).map fun _ => ad k) k (some p)) M) (l : N ≤ M) (u : M ≤ 100000) :
    GrowAt P w C H0 H' s db dr da (fun j => if j = k then p else ad j) { g with rows := setF g.rows k (some []) } M := by
  obtain ⟨dx, eo⟩ := h.ob
  obtain ⟨n1, n2, n3⟩ := h.selfs
  obtain ⟨_, er⟩ := h.rows.is
  have np : p ≠ dr := ne_of hp er (fun z => nomatch z)
  refine ⟨Oth.drop ((h.oth.mono (S' := [dr]) (by simp)).trans o) h.nr, ⟨dx, o.keep _ _ (by simp [n2]) eo⟩, ((h.bare.oth o (by simp [h.br])).imp fun _ _ t => t.oth o).mono l, d.same fun j => ?_, (h.around.oth o (by simp [h.ra.symm])).mono l, fun j z ej => ?_, fun j j' z z' ej ej' ea => ?_, h.nb, h.nr, h.na, h.br, h.ba, h.ra, u⟩
  · show (setF g.rows k (some []) j).map _ = _
    by_cases c : j = k
    · subst c
      rw [setF_same, setF_same, Option.map_some, if_pos rfl]
    · rw [setF_ne c, setF_ne c, if_neg c]
  · have ej : setF g.rows k (some []) j = some z := ej
    by_cases c : j = k
    · subst c
      rw [setF_same] at ej
      cases ej
      show H' (if j = j then p else ad j) = _ ∧ _ ∧ H0 (if j = j then p else ad j) = none
      rw [if_pos rfl]
      exact ⟨o.keep _ _ (by simp [np]) hp, Nat.zero_le _, hp0⟩
    · rw [setF_ne c] at ej
      obtain ⟨f1, f2, f3⟩ := h.lists j z ej
      show H' (if j = k then p else ad j) = _ ∧ _ ∧ H0 (if j = k then p else ad j) = none
      rw [if_neg c]
      exact ⟨o.keep _ _ (by simp [(h.apart ej).2.2.1]) f1, Nat.le_trans f2 l, f3⟩
  · have ea : (if j = k then p else ad j) = (if j' = k then p else ad j') := ea
    by_cases c : j = k <;> by_cases c' : j' = k
    · rw [c, c']
    · have ej' : setF g.rows k (some []) j' = some z' := ej'
      rw [setF_ne c'] at ej'
      rw [if_pos c, if_neg c'] at ea
      exact (hu j' z' ej' ea.symm).elim
    · have ej : setF g.rows k (some []) j = some z := ej
      rw [setF_ne c] at ej
      rw [if_neg c, if_pos c'] at ea
      exact (hu j z ej ea).elim
    · have ej : setF g.rows k (some []) j = some z := ej
      have ej' : setF g.rows k (some []) j' = some z' := ej'
      rw [setF_ne c] at ej
      rw [setF_ne c'] at ej'
      rw [if_neg c, if_neg c'] at ea
      exact h.inj j j' z z' ej ej' ea
end
/-! ### rows with the addresses of the lists -/
def FamZ (p : Addr) (H0 H : Hp) (q : Key0 × List Nat × Addr) (v : V) : Prop := ∃ t, v = .ref t ∧ H t = some (.tup [k0V q.1, .ref q.2.2]) ∧ H q.2.2 = some (.lst (intL q.2.1)) ∧ q.2.2 ≠ p ∧ H0 q.2.2 = none
theorem FamZ.oth {p : Addr} {H0 H H' : Hp} {q : Key0 × List Nat × Addr} {v : V} (h : FamZ p H0 H q v) (o : Oth [p] H H') : FamZ p H0 H' q v := by
  obtain ⟨t, e, h, g, n, m⟩ := h
  exact ⟨t, e, o.tup _ _ h, o.keep _ _ (by simp [n]) g, n, m⟩
def FamY (H0 H : Hp) (q : Key0 × List Nat × Addr) (v : V) : Prop := ∃ t, v = .ref t ∧ H t = some (.tup [k0V q.1, .ref q.2.2]) ∧ H q.2.2 = some (.lst (intL q.2.1)) ∧ H0 q.2.2 = none
theorem FamZ.fam {p : Addr} {H0 H : Hp} {q : Key0 × List Nat × Addr} {v : V} (h : FamZ p H0 H q v) : FamY H0 H q v := by
  obtain ⟨t, e, h, g, n, m⟩ := h
  exact ⟨t, e, h, g, m⟩
theorem pmem_of {α β : Type} {F : α → β → Prop} : ∀ {ts : List α} {us : List β}, Paired F ts us → ∀ {t : α}, t ∈ ts → ∃ x, ∃ _ : x ∈ us, F t x
  | _, _, .nil, _, h => nomatch h
  | _, _, .cons r q, t, h => by
    rcases List.mem_cons.mp h with rfl | h
    · exact ⟨_, List.mem_cons_self, r⟩
    · obtain ⟨x, m, z⟩ := pmem_of q h
      exact ⟨x, List.mem_cons_of_mem _ m, z⟩
theorem pmapl {α β γ : Type} {F : γ → β → Prop} {G : α → β → Prop} (f : α → γ) (h : ∀ a b, G a b → F (f a) b) : ∀ {ts : List α} {us : List β}, Paired G ts us → Paired F (ts.map f) us
  | _, _, .nil => .nil
  | _, _, .cons r q => .cons (h _ _ r) (pmapl f h q)
def FamsZ (p : Addr) (H0 H : Hp) (fs : List (Key0 × List Nat)) (us : List V) : Prop := ∃ fz : List (Key0 × List Nat × Addr), fz.map (fun q => (q.1, q.2.1)) = fs ∧ Paired (FamZ p H0 H) fz us ∧ (fz.map (·.2.2)).Nodup
def spRowsD (n : Nat) : Sp := fun vs H Q _ => ∃ (ns : List Sn) (v : V), vs = [v] ∧ IsT H (.tup (Sn.toTs ns)) v ∧ Sn.hts ns < n ∧ (Sn.all ns).length ≤ 1000 ∧
  ∀ r us fz H', H r = none → H' r = some (.lst us) → fz.map (fun q => (q.1, q.2.1)) = famN ns → (fz.map (·.2.2)).Nodup → Paired (FamY H H') fz us → Oth [] H H' → Q (.ref r) H'
theorem rows_weak {n : Nat} {vs : List V} {H : Hp} {Q : VK} {E : XK} (h : spRows n vs H Q E) : spRowsD n vs H Q E := by
  obtain ⟨ns, v, e, t, a, b, q⟩ := h
  refine ⟨ns, v, e, t, a, b, fun r us fz H' h1 h2 h3 h4 h5 h6 => q r us H' h1 h2 ?_ h6⟩
  rw [← h3]
  exact pmapl _ (fun q v h => by
    obtain ⟨t, e, h, g, m⟩ := h
    exact ⟨t, _, e, h, g, m⟩) h5
theorem lastV_map {α β : Type} (f : α → β) : ∀ (l : List (Key0 × α)) (k : Key0), lastV (l.map fun q => (q.1, f q.2)) k = (lastV l k).map f
  | [], _ => rfl
  | (j, x) :: l, k => by
    show (match lastV (l.map fun q => (q.1, f q.2)) k with | some y => some y | none => if j = k then some (f x) else none) = _
    rw [lastV_map f l k]
    show _ = (match lastV l k with | some y => some y | none => if j = k then some x else none).map f
    cases lastV l k with
    | some y => rfl
    | none =>
      by_cases h : j = k
      · simp [h]
      · simp [h]
/-! ### promises -/
def spGInit (P : Program) (w : World) (C : Addr) (n : Nat) : Sp := fun vs H Q _ => ∃ (H0 : Hp) (s dx : Addr) (B : List Sn) (v : V), vs = [.ref s, v] ∧ Oth [] H0 H ∧ H s = some (.ins C dx []) ∧ H0 s = none ∧ IsT H (.tup (Sn.toTs B)) v ∧ Sn.hts B < n ∧ (Sn.all B).length ≤ 1000 ∧ ((famN B).map (·.1)).Nodup ∧
  ∀ db dr da ad H', GrowAt P w C H0 H' s db dr da ad (.start B) 2000 → Q .non H'
def spGLeave (P : Program) (w : World) (C : Addr) : Sp := fun vs H Q _ => ∃ (H0 : Hp) (s db dr da : Addr) (ad : Key0 → Addr) (g : Gw) (N n : Nat), vs = [.ref s, .int (n : Int)] ∧ GrowAt P w C H0 H s db dr da ad g N ∧ g.LeaveOk n ∧
  ∀ H', GrowAt P w C H0 H' s db dr da ad (g.leave n) N → Q .non H'
def spGPut (P : Program) (w : World) (C : Addr) : Sp := fun vs H Q _ => ∃ (H0 : Hp) (s db dr da : Addr) (ad : Key0 → Addr) (g : Gw) (N n : Nat) (p b : Key0), vs = [.ref s, .int (n : Int), k0V p, k0V b] ∧ GrowAt P w C H0 H s db dr da ad g N ∧ g.PutOk p b ∧ N < 100000 ∧
  ∀ H', GrowAt P w C H0 H' s db dr da ad (g.put n p b) (N + 1) → Q .non H'
def spGChange (P : Program) (w : World) (C : Addr) : Sp := fun vs H Q _ => ∃ (H0 : Hp) (s db dr da : Addr) (ad : Key0 → Addr) (g : Gw) (N : Nat) (op : Op) (v : V), vs = [.ref s, v] ∧ GrowAt P w C H0 H s db dr da ad g N ∧ IsT H op.toT v ∧ g.Ok op ∧ N < 100000 ∧
  ∀ ad' H', GrowAt P w C H0 H' s db dr da ad' (g.step op) (N + 1) → Q .non H'
def spGTree (P : Program) (w : World) (C : Addr) (n : Nat) : Sp := fun vs H Q _ => ∃ (H0 : Hp) (s db dr da : Addr) (ad : Key0 → Addr) (g : Gw) (N : Nat) (p : Key0) (ns : List Sn), vs = [.ref s, k0V p] ∧ GrowAt P w C H0 H s db dr da ad g N ∧ g.Grows p ns ∧ Sn.hts ns < n ∧
  ∀ r H', IsT H' (.tup (Sn.toTs ns)) r → Oth [] H H' → Q r H'
def spApply (n : Nat) : Sp := fun vs H Q _ => ∃ (B A : List Sn) (ops : List Op) (v1 v2 : V), vs = [v1, v2] ∧ IsT H (.tup (Sn.toTs B)) v1 ∧ IsT H (.tup (ops.map Op.toT)) v2 ∧ Sn.hts B < n ∧ Sn.hts A < n ∧ (Sn.all B).length ≤ 1000 ∧ ((famN B).map (·.1)).Nodup ∧ ops.length ≤ 90000 ∧
  (Gw.start B).Runs ops ∧ ((Gw.start B).run ops).Grows none A ∧ ∀ r H', IsT H' (.tup (Sn.toTs A)) r → Oth [] H H' → Q r H'
end Pw
namespace Pw
open PySem PySem.Spec PyProof.Rows L2
theorem eraseIdx_map' {α β : Type} (f : α → β) : ∀ (l : List α) (i : Nat), (l.map f).eraseIdx i = (l.eraseIdx i).map f
  | [], _ => rfl
  | _ :: _, 0 => rfl
  | a :: l, i + 1 => by
    show f a :: (l.map f).eraseIdx i = f a :: (l.eraseIdx i).map f
    rw [eraseIdx_map' f l i]
/-- where a number stands, for list.remove -/
theorem erase_at {l : List Nat} {n : Nat} (h : n ∈ l) : (intI l)[l.idxOf n]? = some (n : Int) ∧ (∀ m : Nat, m < l.idxOf n → (intI l)[m]? ≠ some (n : Int)) ∧ ((intI l).eraseIdx (l.idxOf n)).map V.int = intL (l.erase n) := by
  refine ⟨?_, fun m hm e => ?_, ?_⟩
  · unfold intI; rw [List.getElem?_map, idx_at h]; rfl
  · unfold intI at e
    rw [List.getElem?_map] at e
    cases e2 : l[m]? with
    | none => rw [e2] at e; cases e
    | some z =>
      rw [e2] at e
      have e : some ((z : Nat) : Int) = some (n : Int) := e
      have : z = n := by injection e; omega
      exact idx_first l n m hm (by rw [e2, this])
  · rw [List.erase_eq_eraseIdx_of_idxOf (i := l.idxOf n) rfl]
    unfold intI intL
    rw [eraseIdx_map', List.map_map]
    rfl
end Pw
namespace Pw
open PySem PySem.Spec PyProof.Rows L2
def rSortedDp (K : PySem.W.Frag) : List V → Hp → VK → Prop := fun vs H Q => ∃ (a : Addr) (bs : List (V × PyData)), vs = [V.ref a] ∧ SqL K H a (bs.map (·.1)) ∧ (∀ b ∈ bs, (∃ l, b.1 = V.ref l) ∧ Dp K H b.1 b.2) ∧ PySem.W.AllAlike (bs.map (·.2)) ∧ PySem.W.Sortable (bs.map (·.2)) ∧ (∀ b ∈ bs, b.2.depth ≤ 8) ∧
  ∀ p, H p = none → Q (.ref p) (upd H p (.lst ((bs.mergeSort (PySem.W.dataLe false (·.2))).map (·.1))))
section
variable {X : Cx}
def RefIs (v : Value) (b : V × PyData) : Prop := ∃ l, v = Value.ref l ∧ b.1 = V.ref l
theorem each_ref : ∀ {bs : List (V × PyData)} {us : List Value}, Vals (bs.map (·.1)) us → (∀ b ∈ bs, ∃ l, b.1 = V.ref l) → PySem.W.EachIs RefIs us bs
  | [], us, r, _ => by
    have r : Vals [] us := r
    cases r
    exact .nil
  | b :: bs, us, r, h => by
    rw [List.map_cons] at r
    cases r with
    | cons r1 r2 =>
      obtain ⟨l, e⟩ := h b List.mem_cons_self
      rw [e] at r1
      exact .cons ⟨l, r1, e⟩ (each_ref r2 fun b hb => h b (List.mem_cons_of_mem _ hb))
theorem each_reads {pins : List (Addr × Obj)} {σ : L2.St} {H : Hp} {s : Shared} (I : Inv X pins σ H s) : ∀ {bs : List (V × PyData)} {us : List Value}, Vals (bs.map (·.1)) us → (∀ b ∈ bs, Dp X.K H b.1 b.2) → PySem.W.EachIs (fun v b => ∃ as, Reads s.heap v b.2 as) us bs
  | [], us, r, _ => by
    have r : Vals [] us := r
    cases r
    exact .nil
  | b :: bs, us, r, h => by
    rw [List.map_cons] at r
    cases r with
    | cons r1 r2 => exact .cons (Dp.reads I b.2 b.1 _ (h b List.mem_cons_self) r1) (each_reads I r2 fun b hb => h b (List.mem_cons_of_mem _ hb))
theorem vals_each : ∀ {bs : List (V × PyData)} {us : List Value}, PySem.W.EachIs RefIs us bs → Vals (bs.map (·.1)) us
  | _, _, .nil => .nil
  | _, _, .cons ⟨l, e, e'⟩ t => by
    rw [List.map_cons, e', e]
    exact .cons rfl (vals_each t)
theorem cr_sortedDp (hu : X.A.units + 20 < cLine) : CallR X (.builtin "sorted") (rSortedDp X.K) := by
  intro pins s σ H vs us Q I r h
  obtain ⟨a, bs, rfl, hs, hb, hal, hk, hd, q⟩ := h
  obtain ⟨its, rv, hl, hz⟩ := I.list hs
  rw [Vals.ref1 r]
  rw [List.length_map] at hz
  refine PySem.W.sorted_data (R := RefIs) (enc := (·.2)) hl.isList (each_ref rv fun b m => (hb b m).1) (each_reads I rv fun b m => (hb b m).2) hal hk hz (fun b m => by have := hd b m; omega) fun out ho er => ?_
  obtain ⟨ep, he'⟩ := PyProof.Rows.sortedAll_at s.heap its out.toArray
  have hlen : ((bs.mergeSort (PySem.W.dataLe false (·.2))).map (·.1)).length ≤ sizeLine := by
    rw [List.length_map, (List.mergeSort_perm bs _).length_eq]
    exact hz
  exact ⟨.ref _, upd H (s.heap.objs.size + 1) (.lst ((bs.mergeSort (PySem.W.dataLe false (·.2))).map (·.1))), I.laid (t' := s.toks) (fun _ _ => PyProof.Rows.sortedAll_old) (Nat.le_succ _) ⟨hlen, _, ep, vals_each er, he'⟩, rfl, q _ (I.hok.fresh (Nat.le_succ _))⟩
end
end Pw
namespace Pw
open PySem PySem.Spec PyProof.Rows L2
theorem idx_inc : ∀ {l : List Nat}, l.Nodup → l.Pairwise fun a b => l.idxOf a < l.idxOf b
  | [], _ => .nil
  | a :: l, nd => by
    obtain ⟨n1, n2⟩ := List.nodup_cons.mp nd
    have sh : ∀ b ∈ l, (a :: l).idxOf b = l.idxOf b + 1 := fun b hb => by
      rw [List.idxOf_cons]
      have : (a == b) = false := beq_eq_false_iff_ne.mpr fun e => n1 (by rw [e]; exact hb)
      rw [this]; rfl
    have h0 : (a :: l).idxOf a = 0 := by rw [List.idxOf_cons]; simp
    refine List.pairwise_cons.mpr ⟨fun b hb => by rw [h0, sh b hb]; exact Nat.succ_pos _, ?_⟩
    exact List.Pairwise.imp_of_mem (fun {b c} hb hc h => by rw [sh b hb, sh c hc]; omega) (idx_inc n2)
/-- two rising lists with the same members -/
theorem inc_ext {α : Type} (f : α → Nat) : ∀ {l m : List α}, l.Pairwise (fun a b => f a < f b) → m.Pairwise (fun a b => f a < f b) → (∀ x, x ∈ l ↔ x ∈ m) → l = m
  | [], [], _, _, _ => rfl
  | [], b :: m, _, _, h => by have := (h b).mpr List.mem_cons_self; cases this
  | a :: l, [], _, _, h => by have := (h a).mp List.mem_cons_self; cases this
  | a :: l, b :: m, h1, h2, h => by
    obtain ⟨a1, a2⟩ := List.pairwise_cons.mp h1
    obtain ⟨b1, b2⟩ := List.pairwise_cons.mp h2
    have e : a = b := by
      rcases List.mem_cons.mp ((h a).mp List.mem_cons_self) with e | ha
      · exact e
      · rcases List.mem_cons.mp ((h b).mpr List.mem_cons_self) with e | hb
        · exact e.symm
        · have := b1 a ha
          have := a1 b hb
          omega
    subst e
    congr 1
    refine inc_ext f a2 b2 fun x => ⟨fun hx => ?_, fun hx => ?_⟩
    · rcases List.mem_cons.mp ((h x).mp (List.mem_cons_of_mem _ hx)) with e | hx'
      · subst e; have := a1 x hx; omega
      · exact hx'
    · rcases List.mem_cons.mp ((h x).mpr (List.mem_cons_of_mem _ hx)) with e | hx'
      · subst e; have := b1 x hx; omega
      · exact hx'
/-- the numbers that are taken, as patch tells them, and as the law finds them -/
def takeN (B A : List Sn) : List Nat := ((Sn.lst none B).filter (takeB A)).map (·.2.num)
theorem takeT_N (B A : List Sn) : takeT B A = (takeN B A).map fun n => .tup [.str "take", .int n] := by
  unfold takeT takeN
  rw [List.map_map]
  rfl
def keyIn (A : List Sn) (p : Key0) : Bool := match p with
  | none => true
  | some k => decide (k ∈ nums (Sn.all A))
def lawTake (B A : List Sn) : List Nat := (famN B).flatMap fun f => if keyIn A f.1 = true then f.2.filter fun n => !decide (n ∈ nums (Sn.all A)) else []
theorem takeN_inc {F : Fst} (ok : F.Ok) {B : List Sn} (hB : FitAt F none B) (A : List Sn) : (takeN B A).Pairwise fun a b => (nums (Sn.all B)).idxOf a < (nums (Sn.all B)).idxOf b := by
  have s : (takeN B A).Sublist (nums (Sn.all B)) := by
    unfold takeN nums Sn.all
    rw [List.map_map]
    exact List.Sublist.map _ List.filter_sublist
  exact (idx_inc (all_nodup ok hB)).sublist s
theorem take_mem {F : Fst} {B : List Sn} (hB : FitAt F none B) (A : List Sn) (n : Nat) : n ∈ lawTake B A ↔ n ∈ takeN B A := by
  unfold lawTake takeN
  refine ⟨fun h => ?_, fun h => ?_⟩
  · obtain ⟨f, hf, h⟩ := List.mem_flatMap.mp h
    by_cases c : keyIn A f.1 = true
    · rw [if_pos c] at h
      obtain ⟨h1, h2⟩ := List.mem_filter.mp h
      obtain ⟨u, m⟩ := fam_up hB hf h1
      obtain ⟨x, hx, rfl⟩ := List.mem_map.mp m
      obtain ⟨q, hq, rfl⟩ := List.mem_map.mp hx
      refine List.mem_map.mpr ⟨q, List.mem_filter.mpr ⟨hq, ?_⟩, rfl⟩
      have e := (hB.1 q hq).2.1
      rw [u] at e
      rw [e] at c
      unfold takeB
      rw [h2, Bool.true_and]
      exact c
    · rw [if_neg c] at h; cases h
  · obtain ⟨q, hq, rfl⟩ := List.mem_map.mp h
    obtain ⟨hq, ht⟩ := List.mem_filter.mp hq
    have e := (hB.1 q hq).2.1
    obtain ⟨l, hl, hn⟩ := fam_of hB (List.mem_map.mpr ⟨q.2, List.mem_map.mpr ⟨q, hq, rfl⟩, rfl⟩ : q.2.num ∈ nums (Sn.all B))
    refine List.mem_flatMap.mpr ⟨_, hl, ?_⟩
    unfold takeB at ht
    obtain ⟨t1, t2⟩ := Bool.and_eq_true_iff.mp ht
    have c : keyIn A (F.up q.2.num) = true := by rw [e]; exact t2
    rw [if_pos c]
    exact List.mem_filter.mpr ⟨hn, t1⟩
end Pw
namespace Pw
open PySem PySem.Spec PyProof.Rows L2
/-- a row of the law: the place, and what is taken -/
def rowD (i n : Nat) : PyData := .list [.int i, .tuple [.str "take", .int n]]
theorem rowD_le (ix : Nat → Nat) {a b : Nat} (inj : ix a = ix b → a = b) : (!PySem.W.dataLt (rowD (ix b) b) (rowD (ix a) a)) = decide (ix a ≤ ix b) := by
  unfold rowD
  rw [PySem.W.dataLt_list, PySem.W.dataLt_cons (by rfl)]
  by_cases e : ix a = ix b
  · have := inj e
    subst this
    rw [if_pos (by simp [PyData.eqv]), PyProof.Rows.lex_irrefl]
    simp
  · have ne : PyData.eqv (.int ((ix b : Nat) : Int)) (.int ((ix a : Nat) : Int)) = false := by
      simp [PyData.eqv]; omega
    rw [ne, if_neg Bool.false_ne_true, PySem.W.dataLt_int]
    by_cases h : ix b < ix a
    · rw [decide_eq_true (show ((ix b : Nat) : Int) < (ix a : Int) by omega), decide_eq_false (by omega)]; rfl
    · rw [decide_eq_false (show ¬ ((ix b : Nat) : Int) < (ix a : Int) by omega), decide_eq_true (by omega)]; rfl
/-- the law's rows, sorted, are what is taken in the order of the first tree -/
theorem sorted_take {F : Fst} (ok : F.Ok) {B : List Sn} (hB : FitAt F none B) (A : List Sn) (bs : List (V × PyData)) (num : V × PyData → Nat) (hn : bs.map num = lawTake B A) (nd : (lawTake B A).Nodup)
    (hd : ∀ b ∈ bs, b.2 = rowD ((nums (Sn.all B)).idxOf (num b)) (num b)) : (bs.mergeSort (PySem.W.dataLe false (·.2))).map num = takeN B A := by
  obtain ⟨ix, hix⟩ : ∃ ix : Nat → Nat, ix = fun n => (nums (Sn.all B)).idxOf n := ⟨_, rfl⟩
  have inB : ∀ b ∈ bs, num b ∈ nums (Sn.all B) := fun b hb => by
    have h1 : num b ∈ lawTake B A := by rw [← hn]; exact List.mem_map.mpr ⟨b, hb, rfl⟩
    have h2 := (take_mem hB A (num b)).mp h1
    unfold takeN at h2
    obtain ⟨q, hq, e⟩ := List.mem_map.mp h2
    exact List.mem_map.mpr ⟨q.2, List.mem_map.mpr ⟨q, (List.mem_filter.mp hq).1, rfl⟩, e⟩
  have inj : ∀ x ∈ nums (Sn.all B), ∀ y ∈ nums (Sn.all B), ix x = ix y → x = y := fun x hx y hy e => by
    rw [hix] at e
    have e1 := idx_at hx
    have e2 := idx_at hy
    rw [show (nums (Sn.all B)).idxOf x = (nums (Sn.all B)).idxOf y from e, e2] at e1
    exact (Option.some.inj e1).symm
  have m1 := PySem.W.sort_maps (r := PySem.W.dataLe false (fun b : V × PyData => b.2)) (s := fun x y : Nat => decide (ix x ≤ ix y)) num (l := bs) (fun a ha b hb => by
    rw [PySem.W.dataLe_eq]
    show (!PySem.W.dataLt b.2 a.2) = _
    rw [hd a ha, hd b hb]
    have := rowD_le ix (a := num a) (b := num b) (inj _ (inB a ha) _ (inB b hb))
    rw [hix] at this ⊢
    exact this)
  rw [m1, hn]
  have pw : ((lawTake B A).mergeSort fun x y => decide (ix x ≤ ix y)).Pairwise (fun x y => decide (ix x ≤ ix y) = true) :=
    List.pairwise_mergeSort (le := fun x y => decide (ix x ≤ ix y)) (fun a b c h1 h2 => decide_eq_true (Nat.le_trans (of_decide_eq_true h1) (of_decide_eq_true h2))) (fun a b => by
      rcases Nat.le_total (ix a) (ix b) with h | h
      · rw [decide_eq_true h]; rfl
      · rw [decide_eq_true h, Bool.or_true]) _
  have pm := List.mergeSort_perm (lawTake B A) fun x y => decide (ix x ≤ ix y)
  have nd2 := pm.nodup_iff.mpr nd
  have memM : ∀ x, x ∈ ((lawTake B A).mergeSort fun x y => decide (ix x ≤ ix y)) ↔ x ∈ takeN B A := fun x => pm.mem_iff.trans (take_mem hB A x)
  have inM : ∀ x ∈ ((lawTake B A).mergeSort fun x y => decide (ix x ≤ ix y)), x ∈ nums (Sn.all B) := fun x hx => by
    have h2 := (memM x).mp hx
    unfold takeN at h2
    obtain ⟨q, hq, e⟩ := List.mem_map.mp h2
    exact List.mem_map.mpr ⟨q.2, List.mem_map.mpr ⟨q, (List.mem_filter.mp hq).1, rfl⟩, e⟩
  have st : ((lawTake B A).mergeSort fun x y => decide (ix x ≤ ix y)).Pairwise fun x y => ix x < ix y := by
    refine List.Pairwise.imp_of_mem (fun {x y} hx hy h => ?_) (List.Pairwise.and pw nd2)
    have h1 := of_decide_eq_true h.1
    have h2 : ix x ≠ ix y := fun e => h.2 (inj x (inM x hx) y (inM y hy) e)
    omega
  refine inc_ext ix st ?_ memM
  rw [hix]
  exact takeN_inc ok hB A
end Pw
namespace Pw
open PySem PySem.Spec PyProof.Rows L2
theorem nodup_flatK {α : Type} (g : Key0 × α → List Nat) (key : Nat → Key0) : ∀ {l : List (Key0 × α)}, (l.map (·.1)).Nodup → (∀ f ∈ l, (g f).Nodup) → (∀ f ∈ l, ∀ x ∈ g f, key x = f.1) → (l.flatMap g).Nodup
  | [], _, _, _ => List.nodup_nil
  | f :: l, nd, h1, h2 => by
    rw [List.map_cons] at nd
    obtain ⟨n1, n2⟩ := List.nodup_cons.mp nd
    rw [List.flatMap_cons]
    refine List.nodup_append.mpr ⟨h1 f List.mem_cons_self, nodup_flatK g key n2 (fun x hx => h1 x (List.mem_cons_of_mem _ hx)) fun x hx => h2 x (List.mem_cons_of_mem _ hx), fun x hx y hy e => ?_⟩
    obtain ⟨f', hf', hy⟩ := List.mem_flatMap.mp hy
    have a := h2 f List.mem_cons_self x hx
    have b := h2 f' (List.mem_cons_of_mem _ hf') y hy
    rw [e, b] at a
    exact n1 (by rw [← a]; exact List.mem_map.mpr ⟨f', hf', rfl⟩)
theorem lawTake_nodup {F : Fst} (ok : F.Ok) {B : List Sn} (hB : FitAt F none B) (A : List Sn) : (lawTake B A).Nodup := by
  refine nodup_flatK _ F.up (fam_keys ok hB) (fun f hf => ?_) fun f hf x hx => ?_
  · by_cases c : keyIn A f.1 = true
    · rw [if_pos c]; exact List.Sublist.nodup List.filter_sublist (fam_nodup hB f hf)
    · rw [if_neg c]; exact List.nodup_nil
  · by_cases c : keyIn A f.1 = true
    · rw [if_pos c] at hx
      exact (fam_up hB hf (List.mem_filter.mp hx).1).1
    · rw [if_neg c] at hx; cases hx
end Pw
namespace Pw
open PySem PySem.Spec PyProof.Rows L2
theorem insR_perm (l : List Nat) (x : Nat) (b : Key0) : (insR l x b).Perm (x :: l) := by
  cases b with
  | none => exact List.perm_append_singleton x l
  | some y =>
    show (l.take (l.idxOf y) ++ x :: l.drop (l.idxOf y)).Perm (x :: l)
    refine List.perm_middle.trans ?_
    rw [List.take_append_drop]
/-- who is around, and the rows, say the same -/
structure Gw.Wf (g : Gw) : Prop where
  ar : ∀ n p, g.around (some n) = some p ↔ ∃ l, g.rows p = some l ∧ n ∈ l
  nd : ∀ p l, g.rows p = some l → l.Nodup
theorem Gw.Wf.leaveOk {g : Gw} (h : g.Wf) (n : Nat) : g.LeaveOk n := fun p e => (h.ar n p).mp e
theorem Gw.Wf.leave_rows {g : Gw} (h : g.Wf) (n : Nat) (p : Key0) : (g.leave n).rows p = (g.rows p).map (·.erase n) := by
  unfold Gw.leave
  cases e : g.around (some n) with
  | none =>
    dsimp only
    cases er : g.rows p with
    | none => rfl
    | some l =>
      have : n ∉ l := fun hn => by have := (h.ar n p).mpr ⟨l, er, hn⟩; rw [e] at this; cases this
      rw [Option.map_some, List.erase_of_not_mem this]
  | some p0 =>
    dsimp only
    by_cases c : p = p0
    · subst c; rw [setF_same]
    · rw [setF_ne c]
      cases er : g.rows p with
      | none => rfl
      | some l =>
        have : n ∉ l := fun hn => by have := (h.ar n p).mpr ⟨l, er, hn⟩; rw [e] at this; exact c (Option.some.inj this).symm
        rw [Option.map_some, List.erase_of_not_mem this]
theorem Gw.leave_around (g : Gw) (n m : Nat) : (g.leave n).around (some m) = if m = n then none else g.around (some m) := by
  unfold Gw.leave
  cases e : g.around (some n) with
  | none =>
    dsimp only
    by_cases c : m = n
    · subst c; rw [if_pos rfl, e]
    · rw [if_neg c]
  | some p0 =>
    dsimp only
    by_cases c : m = n
    · subst c; rw [setF_same, if_pos rfl]
    · rw [setF_ne (fun z => c (Option.some.inj z)), if_neg c]
theorem Gw.leave_bare (g : Gw) (n : Nat) : (g.leave n).bare = g.bare := by
  unfold Gw.leave
  cases g.around (some n) <;> rfl
theorem Gw.Wf.leave {g : Gw} (h : g.Wf) (n : Nat) : (g.leave n).Wf := by
  refine ⟨fun m p => ?_, fun p l e => ?_⟩
  · rw [Gw.leave_around, h.leave_rows]
    by_cases c : m = n
    · subst c
      rw [if_pos rfl]
      refine ⟨(fun z => nomatch z), fun ⟨l, e, hm⟩ => ?_⟩
      cases er : g.rows p with
      | none => rw [er] at e; cases e
      | some l0 =>
        rw [er] at e; cases e
        exact absurd hm (List.Nodup.not_mem_erase (h.nd p l0 er))
    · rw [if_neg c, h.ar m p]
      constructor
      · rintro ⟨l, e, hm⟩
        exact ⟨l.erase n, by rw [e]; rfl, (List.mem_erase_of_ne c).mpr hm⟩
      · rintro ⟨l, e, hm⟩
        cases er : g.rows p with
        | none => rw [er] at e; cases e
        | some l0 =>
          rw [er] at e; cases e
          exact ⟨l0, rfl, (List.mem_erase_of_ne c).mp hm⟩
  · rw [h.leave_rows] at e
    cases er : g.rows p with
    | none => rw [er] at e; cases e
    | some l0 => rw [er] at e; cases e; exact (h.nd p l0 er).erase n
theorem Gw.put_rows {g : Gw} {n : Nat} {p b q : Key0} : (g.put n p b).rows q = if q = p then (g.rows p).map fun l => insR l n b else g.rows q := by
  unfold Gw.put
  by_cases c : q = p
  · subst c; rw [if_pos rfl]; exact setF_same
  · rw [if_neg c]; exact setF_ne c
theorem Gw.put_around {g : Gw} {n m : Nat} {p b : Key0} : (g.put n p b).around (some m) = if m = n then some p else g.around (some m) := by
  unfold Gw.put
  by_cases c : m = n
  · subst c; rw [if_pos rfl]; exact setF_same
  · rw [if_neg c]; exact setF_ne fun z => c (Option.some.inj z)
theorem Gw.Wf.put {g : Gw} (h : g.Wf) {n : Nat} {p b : Key0} (ha : g.around (some n) = none) (ho : ∃ l, g.rows p = some l) : (g.put n p b).Wf := by
  obtain ⟨l0, e0⟩ := ho
  have n0 : ∀ q l, g.rows q = some l → n ∉ l := fun q l e hn => by
    have := (h.ar n q).mpr ⟨l, e, hn⟩
    rw [ha] at this; cases this
  refine ⟨fun m q => ?_, fun q l e => ?_⟩
  · rw [Gw.put_around, Gw.put_rows]
    by_cases c : m = n
    · subst c
      rw [if_pos rfl]
      constructor
      · intro z
        cases z
        rw [if_pos rfl, e0]
        exact ⟨_, rfl, (insR_perm l0 m b).mem_iff.mpr List.mem_cons_self⟩
      · rintro ⟨l, e, hm⟩
        by_cases c2 : q = p
        · rw [c2]
        · rw [if_neg c2] at e
          exact absurd hm (n0 q l e)
    · rw [if_neg c, h.ar m q]
      by_cases c2 : q = p
      · subst c2
        rw [if_pos rfl, e0]
        constructor
        · rintro ⟨l, e, hm⟩
          cases e
          exact ⟨_, rfl, (insR_perm l0 n b).mem_iff.mpr (List.mem_cons_of_mem _ hm)⟩
        · rintro ⟨l, e, hm⟩
          cases e
          rcases List.mem_cons.mp ((insR_perm l0 n b).mem_iff.mp hm) with z | z
          · exact absurd z c
          · exact ⟨l0, rfl, z⟩
      · rw [if_neg c2]
  · rw [Gw.put_rows] at e
    by_cases c2 : q = p
    · rw [if_pos c2, e0] at e
      cases e
      exact (insR_perm l0 n b).nodup_iff.mpr (List.nodup_cons.mpr ⟨n0 p l0 e0, h.nd p l0 e0⟩)
    · rw [if_neg c2] at e
      exact h.nd q l e
/-! ### takes -/
theorem Gw.takes : ∀ (T : List Nat) {g : Gw}, g.Wf → g.Runs (T.map .take) ∧ (g.run (T.map .take)).Wf ∧ (g.run (T.map .take)).bare = g.bare ∧
    (∀ p, (g.run (T.map .take)).rows p = (g.rows p).map (·.filter fun n => !decide (n ∈ T))) ∧ ∀ m q, (g.run (T.map .take)).around (some m) = some q → g.around (some m) = some q
  | [], g, h => ⟨trivial, h, rfl, fun p => by
      show g.rows p = _
      cases g.rows p with
      | none => rfl
      | some l => exact congrArg some (List.filter_eq_self.mpr fun x _ => by simp).symm, fun _ _ z => z⟩
  | n :: T, g, h => by
    obtain ⟨a, b, c, d, e⟩ := Gw.takes T (h.leave n)
    refine ⟨⟨h.leaveOk n, a⟩, b, c.trans (g.leave_bare n), fun p => ?_, fun m q z => ?_⟩
    · refine (d p).trans ?_
      rw [h.leave_rows]
      cases er : g.rows p with
      | none => rfl
      | some l =>
        show some ((l.erase n).filter fun n => !decide (n ∈ T)) = some (l.filter fun m => !decide (m ∈ n :: T))
        rw [(h.nd p l er).erase_eq_filter, List.filter_filter]
        congr 1
        refine List.filter_congr fun x _ => ?_
        by_cases h1 : x = n <;> simp [h1]
    · have := e m q z
      rw [Gw.leave_around] at this
      by_cases c : m = n
      · rw [if_pos c] at this; cases this
      · rw [if_neg c] at this; exact this
/-! ### changes -/
def changeO (o : Option Sn) (n : Sn) : List Op := match o with
  | none => [.make n.bare]
  | some m => match n, m with
    | .text k s, .text _ s' => if s = s' then [] else [.text k s]
    | .input k v, .input _ v' => if v = v' then [] else [.value k v]
    | _, _ => []
theorem changeO_T (o : Option Sn) (n : Sn) : (changeO o n).map Op.toT = changeT o n := by
  unfold changeO changeT
  cases o with
  | none => rfl
  | some m => cases n <;> cases m <;> first | rfl | (dsimp only; split <;> rfl)
def Cond (o : Option Sn) (n : Sn) (g : Gw) : Prop := match o with
  | none => n.isB = true → g.rows (some n.num) = none
  | some m => kind m = kind n ∧ m.num = n.num ∧ g.bare (some n.num) = some m.bare ∧ ∀ k t ks k' t' ks', n = .box k t ks → m = .box k' t' ks' → t = t'
theorem bare_num (n : Sn) : n.bare.num = n.num := by cases n <;> rfl
theorem bare_isB (n : Sn) : n.bare.isB = n.isB := by cases n <;> rfl
def Newly (o : Option Sn) (n : Sn) (p : Key0) : Prop := o = none ∧ n.isB = true ∧ p = some n.num
theorem Gw.change1 {g : Gw} (h : g.Wf) (n : Sn) (o : Option Sn) (c : Cond o n g) : g.Runs (changeO o n) ∧ (g.run (changeO o n)).Wf ∧ (g.run (changeO o n)).around = g.around ∧ (g.run (changeO o n)).bare (some n.num) = some n.bare ∧
    (∀ k, k ≠ some n.num → (g.run (changeO o n)).bare k = g.bare k) ∧ (∀ p, Newly o n p → (g.run (changeO o n)).rows p = some []) ∧ ∀ p, ¬ Newly o n p → (g.run (changeO o n)).rows p = g.rows p := by
  cases o with
  | none =>
    have er : (g.run [Op.make n.bare]).rows = if n.isB then setF g.rows (some n.num) (some []) else g.rows := by
      show (if n.bare.isB then setF g.rows (some n.bare.num) (some []) else g.rows) = _
      rw [bare_num, bare_isB]
    have eb : (g.run [Op.make n.bare]).bare = setF g.bare (some n.num) (some n.bare) := by
      show setF g.bare (some n.bare.num) (some n.bare) = _
      rw [bare_num]
    have ea : (g.run [Op.make n.bare]).around = g.around := rfl
    have r1 : ∀ p, Newly none n p → (g.run [Op.make n.bare]).rows p = some [] := fun p f => by
      rw [er, if_pos f.2.1, f.2.2, setF_same]
    have r2 : ∀ p, ¬ Newly none n p → (g.run [Op.make n.bare]).rows p = g.rows p := fun p f => by
      rw [er]
      by_cases b : n.isB = true
      · rw [if_pos b, setF_ne fun z => f ⟨rfl, b, z⟩]
      · rw [if_neg b]
    have c : n.isB = true → g.rows (some n.num) = none := c
    refine ⟨⟨trivial, trivial⟩, ⟨fun m p => ?_, fun p l e => ?_⟩, ea, by show (g.run [Op.make n.bare]).bare _ = _; rw [eb, setF_same], fun k hk => by show (g.run [Op.make n.bare]).bare _ = _; rw [eb, setF_ne hk], r1, r2⟩
    · show (g.run [Op.make n.bare]).around _ = _ ↔ ∃ l, (g.run [Op.make n.bare]).rows p = some l ∧ m ∈ l
      rw [ea, h.ar m p]
      by_cases f : Newly none n p
      · rw [r1 p f]
        constructor
        · rintro ⟨l, e, hm⟩
          rw [f.2.2, c f.2.1] at e; cases e
        · rintro ⟨l, e, hm⟩
          cases e; cases hm
      · rw [r2 p f]
    · have e : (g.run [Op.make n.bare]).rows p = some l := e
      by_cases f : Newly none n p
      · rw [r1 p f] at e; cases e; exact .nil
      · rw [r2 p f] at e; exact h.nd p l e
  | some m =>
    obtain ⟨c1, c2, c3, c4⟩ := c
    have nf : ∀ p, ¬ Newly (some m) n p := fun p f => nomatch f.1
    have same : m.bare = n.bare → changeO (some m) n = [] → _ := fun e1 e2 =>
      (show g.Runs (changeO (some m) n) ∧ (g.run (changeO (some m) n)).Wf ∧ (g.run (changeO (some m) n)).around = g.around ∧ (g.run (changeO (some m) n)).bare (some n.num) = some n.bare ∧
        (∀ k, k ≠ some n.num → (g.run (changeO (some m) n)).bare k = g.bare k) ∧ (∀ p, Newly (some m) n p → (g.run (changeO (some m) n)).rows p = some []) ∧ ∀ p, ¬ Newly (some m) n p → (g.run (changeO (some m) n)).rows p = g.rows p from by
        rw [e2]
        exact ⟨trivial, h, rfl, by rw [← e1]; exact c3, fun _ _ => rfl, fun p f => absurd f (nf p), fun _ _ => rfl⟩)
    cases n with
    | text k s =>
      cases m with
      | text k' s' =>
        have c2 : k' = k := c2
        subst c2
        by_cases e : s = s'
        · subst e
          exact same rfl (by show (if s = s then [] else _) = _; rw [if_pos rfl])
        · rw [show changeO (some (.text k' s')) (.text k' s) = [.text k' s] from if_neg e]
          exact ⟨⟨trivial, trivial⟩, ⟨h.ar, h.nd⟩, rfl, setF_same, fun q hq => setF_ne hq, fun p f => absurd f (nf p), fun _ _ => rfl⟩
      | input k' s' => cases c1
      | box k' t' ks' => cases c1
    | input k s =>
      cases m with
      | text k' s' => cases c1
      | input k' s' =>
        have c2 : k' = k := c2
        subst c2
        by_cases e : s = s'
        · subst e
          exact same rfl (by show (if s = s then [] else _) = _; rw [if_pos rfl])
        · rw [show changeO (some (.input k' s')) (.input k' s) = [.value k' s] from if_neg e]
          exact ⟨⟨⟨s', c3⟩, trivial⟩, ⟨h.ar, h.nd⟩, rfl, setF_same, fun q hq => setF_ne hq, fun p f => absurd f (nf p), fun _ _ => rfl⟩
      | box k' t' ks' => cases c1
    | box k t ks =>
      cases m with
      | text k' s' => cases c1
      | input k' s' => cases c1
      | box k' t' ks' =>
        have c2 : k' = k := c2
        subst c2
        have := c4 _ _ _ _ _ _ rfl rfl
        subst this
        exact same rfl rfl
def NewlyIn (o : Key0 → Option Sn) (ns : List Sn) (p : Key0) : Prop := ∃ n ∈ ns, Newly (o (some n.num)) n p
theorem Gw.changes (o : Key0 → Option Sn) : ∀ (ns : List Sn) {g : Gw}, g.Wf → (nums ns).Nodup → (∀ n ∈ ns, Cond (o (some n.num)) n g) →
    g.Runs (ns.flatMap fun n => changeO (o (some n.num)) n) ∧ (g.run (ns.flatMap fun n => changeO (o (some n.num)) n)).Wf ∧ (g.run (ns.flatMap fun n => changeO (o (some n.num)) n)).around = g.around ∧
    (∀ n ∈ ns, (g.run (ns.flatMap fun n => changeO (o (some n.num)) n)).bare (some n.num) = some n.bare) ∧ (∀ k, k ∉ nums ns → (g.run (ns.flatMap fun n => changeO (o (some n.num)) n)).bare (some k) = g.bare (some k)) ∧
    (∀ p, NewlyIn o ns p → (g.run (ns.flatMap fun n => changeO (o (some n.num)) n)).rows p = some []) ∧ ∀ p, ¬ NewlyIn o ns p → (g.run (ns.flatMap fun n => changeO (o (some n.num)) n)).rows p = g.rows p
  | [], g, h, _, _ => ⟨trivial, h, rfl, (fun _ z => nomatch z), fun _ _ => rfl, fun p f => (by obtain ⟨_, z, _⟩ := f; cases z), fun _ _ => rfl⟩
  | n :: ns, g, h, nd, c => by
    obtain ⟨n1, n2⟩ := List.nodup_cons.mp (show (n.num :: nums ns).Nodup from nd)
    obtain ⟨a1, a2, a3, a4, a5, a6, a7⟩ := Gw.change1 h n _ (c n List.mem_cons_self)
    have unlike : ∀ m ∈ ns, m.num ≠ n.num := fun m hm e => n1 (by rw [← e]; exact List.mem_map.mpr ⟨m, hm, rfl⟩)
    obtain ⟨b1, b2, b3, b4, b5, b6, b7⟩ := Gw.changes o ns a2 n2 fun m hm => by
      have cm := c m (List.mem_cons_of_mem _ hm)
      have ne := unlike m hm
      have er : (g.run (changeO (o (some n.num)) n)).rows (some m.num) = g.rows (some m.num) := a7 _ fun f => ne (Option.some.inj f.2.2)
      have eb : (g.run (changeO (o (some n.num)) n)).bare (some m.num) = g.bare (some m.num) := a5 _ fun z => ne (Option.some.inj z)
      revert cm
      unfold Cond
      cases o (some m.num) with
      | none => intro cm; dsimp only; rw [er]; exact cm
      | some z => intro cm; dsimp only; rw [eb]; exact cm
    rw [List.flatMap_cons]
    refine ⟨Gw.runs_app a1 b1, ?_⟩
    rw [Gw.run_app]
    refine ⟨b2, b3.trans a3, fun m hm => ?_, fun k hk => ?_, fun p f => ?_, fun p f => ?_⟩
    · rcases List.mem_cons.mp hm with rfl | hm
      · rw [b5 _ n1]; exact a4
      · exact b4 m hm
    · have hk : k ∉ n.num :: nums ns := hk
      rw [List.mem_cons, not_or] at hk
      rw [b5 k hk.2, a5 _ fun z => hk.1 (Option.some.inj z)]
    · by_cases f2 : NewlyIn o ns p
      · exact b6 p f2
      · rw [b7 p f2]
        obtain ⟨m, hm, fm⟩ := f
        rcases List.mem_cons.mp hm with rfl | hm
        · exact a6 p fm
        · exact absurd ⟨m, hm, fm⟩ f2
    · rw [b7 p fun ⟨m, hm, fm⟩ => f ⟨m, List.mem_cons_of_mem _ hm, fm⟩, a7 p fun fm => f ⟨n, List.mem_cons_self, fm⟩]
/-! ### puts -/
def putsO (p : Key0) (st : List Nat) : List Nat → Key0 → List Op
  | [], _ => []
  | n :: r, b => (if n ∈ st then [] else [.put n p b]) ++ putsO p st r (some n)
theorem putsO_T (p : Key0) (st : List Nat) : ∀ (r : List Nat) (b : Key0), (putsO p st r b).map Op.toT = putsT p st r b
  | [], _ => rfl
  | n :: r, b => by
    rw [putsO, putsT, List.map_append, putsO_T p st r]
    split <;> rfl
theorem Gw.puts1 (up : Nat → Key0) (p : Key0) (st : List Nat) : ∀ (r : List Nat) (b : Key0) (R : List Nat) {g : Gw}, g.Wf → g.rows p = some R → (∀ x q, g.around (some x) = some q → q = up x) → (∀ x ∈ r, up x = p) →
    (∀ y, b = some y → y ∈ R ∧ y ∉ r) → (∀ x ∈ r, x ∈ st → x ∈ R) → r.Nodup →
    g.Runs (putsO p st r b) ∧ (g.run (putsO p st r b)).Wf ∧ (g.run (putsO p st r b)).bare = g.bare ∧ (g.run (putsO p st r b)).rows p = some (doPuts st r b R) ∧ (∀ q, q ≠ p → (g.run (putsO p st r b)).rows q = g.rows q) ∧
    ∀ x q, (g.run (putsO p st r b)).around (some x) = some q → q = up x
  | [], b, R, g, h, hR, hu, _, _, _, _ => ⟨trivial, h, rfl, hR, fun _ _ => rfl, hu⟩
  | n :: r, b, R, g, h, hR, hu, hr, hb, hst, nd => by
    obtain ⟨n1, n2⟩ := List.nodup_cons.mp nd
    rw [putsO, doPuts]
    by_cases c : n ∈ st
    · rw [if_pos c, if_pos c, List.nil_append]
      exact Gw.puts1 up p st r (some n) R h hR hu (fun x hx => hr x (List.mem_cons_of_mem _ hx)) (fun y e => by cases e; exact ⟨hst n List.mem_cons_self c, n1⟩) (fun x hx => hst x (List.mem_cons_of_mem _ hx)) n2
    · rw [if_neg c, if_neg c]
      have un := hr n List.mem_cons_self
      have lr : (g.leave n).rows p = some (R.erase n) := by rw [h.leave_rows, hR]; rfl
      have la : (g.leave n).around (some n) = none := by rw [Gw.leave_around, if_pos rfl]
      have hW : ((g.leave n).put n p b).Wf := (h.leave n).put la ⟨_, lr⟩
      have r1 : ((g.leave n).put n p b).rows p = some (insR (R.erase n) n b) := by rw [Gw.put_rows, if_pos rfl, lr]; rfl
      have ok : g.Ok (.put n p b) := ⟨h.leaveOk n, R.erase n, lr, fun y e => by
        obtain ⟨y1, y2⟩ := hb y e
        exact (List.mem_erase_of_ne fun z => y2 (by rw [z]; exact List.mem_cons_self)).mpr y1⟩
      have u1 : ∀ x q, ((g.leave n).put n p b).around (some x) = some q → q = up x := fun x q e => by
        rw [Gw.put_around] at e
        by_cases z : x = n
        · rw [if_pos z] at e; cases e; rw [z]; exact un.symm
        · rw [if_neg z, Gw.leave_around, if_neg z] at e; exact hu x q e
      have pm := insR_perm (R.erase n) n b
      obtain ⟨a1, a2, a3, a4, a5, a6⟩ := Gw.puts1 up p st r (some n) (insR (R.erase n) n b) hW r1 u1 (fun x hx => hr x (List.mem_cons_of_mem _ hx)) (fun y e => by cases e; exact ⟨pm.mem_iff.mpr List.mem_cons_self, n1⟩)
        (fun x hx hs => pm.mem_iff.mpr (List.mem_cons_of_mem _ ((List.mem_erase_of_ne fun z => n1 (by rw [← z]; exact hx)).mpr (hst x (List.mem_cons_of_mem _ hx) hs)))) n2
      refine ⟨⟨ok, a1⟩, a2, a3.trans (g.leave_bare n), a4, fun q hq => ?_, a6⟩
      refine (a5 q hq).trans ?_
      rw [Gw.put_rows, if_neg hq, h.leave_rows]
      cases er : g.rows q with
      | none => rfl
      | some l =>
        have : n ∉ l := fun hn => hq ((hu n q ((h.ar n q).mpr ⟨l, er, hn⟩)).trans un)
        rw [Option.map_some, List.erase_of_not_mem this]
theorem Gw.puts (up : Nat → Key0) (st : Key0 × List Nat → List Nat) : ∀ (fs : List (Key0 × List Nat)) {g : Gw}, g.Wf → (fs.map (·.1)).Nodup → (∀ x q, g.around (some x) = some q → q = up x) →
    (∀ f ∈ fs, f.2.Nodup ∧ (∀ x ∈ f.2, up x = f.1) ∧ ∃ R, g.rows f.1 = some R ∧ (∀ x ∈ R, x ∈ f.2) ∧ (st f).Sublist f.2 ∧ (st f).Sublist R) →
    g.Runs (fs.flatMap fun f => putsO f.1 (st f) f.2.reverse none) ∧ (g.run (fs.flatMap fun f => putsO f.1 (st f) f.2.reverse none)).bare = g.bare ∧
    (∀ f ∈ fs, (g.run (fs.flatMap fun f => putsO f.1 (st f) f.2.reverse none)).rows f.1 = some f.2) ∧ ∀ q, q ∉ fs.map (·.1) → (g.run (fs.flatMap fun f => putsO f.1 (st f) f.2.reverse none)).rows q = g.rows q
  | [], g, h, _, _, _ => ⟨trivial, rfl, (fun _ z => nomatch z), fun _ _ => rfl⟩
  | f :: fs, g, h, nd, hu, hc => by
    obtain ⟨n1, n2⟩ := List.nodup_cons.mp (show (f.1 :: fs.map (·.1)).Nodup from nd)
    obtain ⟨f1, f2, R, f3, f4, f5, f6⟩ := hc f List.mem_cons_self
    obtain ⟨a1, a2, a3, a4, a5, a6⟩ := Gw.puts1 up f.1 (st f) f.2.reverse none R h f3 hu (fun x hx => f2 x (List.mem_reverse.mp hx)) (fun y e => nomatch e) (fun x _ hs => f6.subset hs) (List.pairwise_reverse.mpr (f1.imp Ne.symm))
    rw [puts_row f1 (h.nd _ _ f3) f4 f5 f6] at a4
    obtain ⟨b1, b2, b3, b4⟩ := Gw.puts up st fs a2 n2 a6 fun g' hg' => by
      obtain ⟨g1, g2, R', g3, g4⟩ := hc g' (List.mem_cons_of_mem _ hg')
      refine ⟨g1, g2, R', ?_, g4⟩
      rw [a5 _ fun e => n1 (by rw [← e]; exact List.mem_map.mpr ⟨g', hg', rfl⟩)]
      exact g3
    rw [List.flatMap_cons]
    refine ⟨Gw.runs_app a1 b1, ?_⟩
    rw [Gw.run_app]
    refine ⟨b2.trans a3, fun f' hf' => ?_, fun q hq => ?_⟩
    · rcases List.mem_cons.mp hf' with rfl | hf'
      · rw [b4 _ n1]; exact a4
      · exact b3 f' hf'
    · have hq : q ∉ f.1 :: fs.map (·.1) := hq
      rw [List.mem_cons, not_or] at hq
      rw [b4 q hq.2, a5 q hq.1]
end Pw
namespace Pw
open PySem PySem.Spec PyProof.Rows L2
theorem grN_inc (f : Nat → Int) : ∀ (ns : List Nat) (pl : Int) (ls : List Nat) (left : Nat), (grN f pl ns ls left).Pairwise (fun a b => f a < f b) ∧ ∀ x ∈ grN f pl ns ls left, pl < f x
  | [], pl, ls, left => by simp [grN]
  | n :: ns, pl, [], left => by simp [grN]
  | n :: ns, pl, l :: ls, left => by
    rw [grN]
    by_cases c : l = left ∧ pl < f n
    · rw [if_pos c]
      obtain ⟨h1, h2⟩ := grN_inc f ns (f n) ls (left - 1)
      refine ⟨List.pairwise_cons.mpr ⟨h2, h1⟩, fun x hx => ?_⟩
      rcases List.mem_cons.mp hx with rfl | hx
      · exact c.2
      · have := h2 x hx; have := c.2; omega
    · rw [if_neg c]
      exact grN_inc f ns pl ls left
/-- what stays stands so in the earlier row, too -/
theorem stay_subE {e l : List Nat} (nd : e.Nodup) : (stay e l).Sublist e := by
  have h1 : (stay e l).Pairwise fun a b => e.idxOf a < e.idxOf b := by
    rw [stay_grN]
    refine List.Pairwise.imp (fun {a b} h => ?_) (grN_inc (fun n => ((pos0 e n : Nat) : Int)) _ _ _ _).1
    have h : ((e.idxOf a : Nat) : Int) < ((e.idxOf b : Nat) : Int) := h
    omega
  have h2 : ∀ x ∈ stay e l, x ∈ e := fun x hx => of_decide_eq_true (List.mem_filter.mp ((stay_common e l).subset hx)).2
  have h3 : stay e l = e.filter fun x => decide (x ∈ stay e l) := inc_ext (fun x => e.idxOf x) h1 ((idx_inc nd).sublist List.filter_sublist) fun x => by
    rw [List.mem_filter, decide_eq_true_eq]
    exact ⟨fun h => ⟨h2 x h, h⟩, fun h => h.2⟩
  rw [h3]
  exact List.filter_sublist
def opsO (B A : List Sn) : List Op :=
  (takeN B A).map .take ++ ((Sn.all A).flatMap fun n => changeO (lastV (numK (Sn.all B)) (some n.num)) n) ++ (famN A).flatMap fun f => putsO f.1 (stay (earlierOf B f.1) f.2) f.2.reverse none
theorem opsO_T (B A : List Sn) : (opsO B A).map Op.toT = patchT B A := by
  unfold opsO patchT
  rw [List.map_append, List.map_append, takeT_N, List.map_map, List.map_flatMap, List.map_flatMap]
  congr 1
  · congr 1
    exact congrArg (fun f => List.flatMap f (Sn.all A)) (funext fun n => changeO_T _ n)
  · exact congrArg (fun f => List.flatMap f (famN A)) (funext fun f => putsO_T _ _ _ _)
section
variable {F : Fst} {B A : List Sn}
theorem start_ar (ok : F.Ok) (hB : FitAt F none B) (n : Nat) (p : Key0) : (Gw.start B).around (some n) = some p ↔ F.up n = p ∧ n ∈ nums (Sn.all B) := by
  show lastV ((Sn.lst none B).map fun q => (some q.2.num, q.1)) (some n) = some p ↔ _
  have nd : (((Sn.lst none B).map fun q => ((some q.2.num : Key0), q.1)).map (·.1)).Nodup := by
    have := all_nodup ok hB
    unfold nums Sn.all at this
    rw [List.map_map] at this
    rw [List.map_map]
    have e : ((Sn.lst none B).map ((fun x : Key0 × Key0 => x.1) ∘ fun q => ((some q.2.num : Key0), q.1))) = ((Sn.lst none B).map (Sn.num ∘ fun x => x.2)).map some := by rw [List.map_map]; rfl
    rw [e]
    exact List.Pairwise.map some (fun a b h z => h (Option.some.inj z)) this
  constructor
  · intro h
    obtain ⟨q, hq, e⟩ := List.mem_map.mp (lastV_mem h)
    have e1 : q.2.num = n := Option.some.inj (congrArg Prod.fst e)
    have e2 : q.1 = p := congrArg Prod.snd e
    subst e1
    exact ⟨(hB.1 q hq).2.1.trans e2, List.mem_map.mpr ⟨q.2, List.mem_map.mpr ⟨q, hq, rfl⟩, rfl⟩⟩
  · rintro ⟨e, h⟩
    obtain ⟨m, hm, rfl⟩ := List.mem_map.mp h
    obtain ⟨q, hq, rfl⟩ := List.mem_map.mp hm
    refine lastV_some nd (List.mem_map.mpr ⟨q, hq, ?_⟩)
    rw [← (hB.1 q hq).2.1, e]
theorem start_rows (ok : F.Ok) (hB : FitAt F none B) {p : Key0} {l : List Nat} : (Gw.start B).rows p = some l ↔ (p, l) ∈ famN B :=
  ⟨fun h => lastV_mem h, fun h => lastV_some (fam_keys ok hB) h⟩
theorem start_wf (ok : F.Ok) (hB : FitAt F none B) : (Gw.start B).Wf := by
  refine ⟨fun n p => ?_, fun p l e => fam_nodup hB _ ((start_rows ok hB).mp e)⟩
  rw [start_ar ok hB]
  constructor
  · rintro ⟨rfl, h⟩
    obtain ⟨l, hl, hn⟩ := fam_of hB h
    exact ⟨l, (start_rows ok hB).mpr hl, hn⟩
  · rintro ⟨l, e, hn⟩
    exact fam_up hB ((start_rows ok hB).mp e) hn
theorem numK_some {l : List Sn} (nd : (nums l).Nodup) {n : Sn} (h : n ∈ l) : lastV (numK l) (some n.num) = some n := by
  refine lastV_some ?_ (List.mem_map.mpr ⟨n, h, rfl⟩)
  unfold numK
  rw [List.map_map]
  have e : l.map ((fun x : Key0 × Sn => x.1) ∘ fun n => ((some n.num : Key0), n)) = (nums l).map some := by unfold nums; rw [List.map_map]; rfl
  rw [e]
  exact List.Pairwise.map some (fun a b h z => h (Option.some.inj z)) nd
theorem numK_none {l : List Sn} {k : Nat} (h : k ∉ nums l) : lastV (numK l) (some k) = none := lastV_none fun q hq z => by
  obtain ⟨n, hn, rfl⟩ := List.mem_map.mp hq
  exact h (List.mem_map.mpr ⟨n, hn, Option.some.inj z⟩)
theorem numK_inv {l : List Sn} {k : Nat} {n : Sn} (h : lastV (numK l) (some k) = some n) : n ∈ l ∧ n.num = k := by
  obtain ⟨m, hm, e⟩ := List.mem_map.mp (lastV_mem h)
  have e1 : m.num = k := Option.some.inj (congrArg Prod.fst e)
  have e2 : m = n := congrArg Prod.snd e
  subst e2
  exact ⟨hm, e1⟩
theorem num_inj {l : List Sn} (nd : (nums l).Nodup) {a b : Sn} (ha : a ∈ l) (hb : b ∈ l) (e : a.num = b.num) : a = b := by
  have h1 := numK_some nd ha
  rw [e, numK_some nd hb] at h1
  exact (Option.some.inj h1).symm
/-- the keys of the rows of a tree -/
theorem fam_key {ns : List Sn} {p : Key0} : p ∈ (famN ns).map (·.1) ↔ p = none ∨ ∃ n ∈ Sn.all ns, n.isB = true ∧ p = some n.num := by
  unfold famN Sn.fams
  rw [List.map_map, List.map_cons, List.map_map, List.mem_cons]
  constructor
  · rintro (h | h)
    · exact .inl h
    · obtain ⟨n, hn, e⟩ := List.mem_map.mp h
      obtain ⟨h1, h2⟩ := List.mem_filter.mp hn
      exact .inr ⟨n, h1, h2, e.symm⟩
  · rintro (h | ⟨n, h1, h2, e⟩)
    · exact .inl h
    · exact .inr (List.mem_map.mpr ⟨n, List.mem_filter.mpr ⟨h1, h2⟩, e.symm⟩)
theorem fam_box {ns : List Sn} {n : Sn} (h : n ∈ Sn.all ns) (b : n.isB = true) : (some n.num, nums n.kids) ∈ famN ns :=
  List.mem_map.mpr ⟨(some n.num, n.kids), List.mem_cons_of_mem _ (List.mem_map.mpr ⟨n, List.mem_filter.mpr ⟨h, b⟩, rfl⟩), rfl⟩
theorem tags (hB : FitAt F none B) (hA : FitAt F none A) : ∀ n ∈ Sn.all A, ∀ m ∈ Sn.all B, m.num = n.num → ∀ k t ks k' t' ks', n = .box k t ks → m = .box k' t' ks' → t = t' := fun n hn m hm e k t ks k' t' ks' h1 h2 => by
  obtain ⟨q, hq, rfl⟩ := List.mem_map.mp hn
  obtain ⟨q', hq', rfl⟩ := List.mem_map.mp hm
  have a := (hA.1 q hq).2.2.2.1 _ _ _ h1
  have b := (hB.1 q' hq').2.2.2.1 _ _ _ h2
  rw [h1, h2] at e
  have e : k' = k := e
  rw [a, b, e]
/-- the operations of a patch make the second tree of the first -/
theorem patch_runs (ok : F.Ok) (hB : FitAt F none B) (hA : FitAt F none A) : (Gw.start B).Runs (opsO B A) ∧ ((Gw.start B).run (opsO B A)).Grows none A := by
  have ndB := all_nodup ok hB
  have ndA := all_nodup ok hA
  have kd := kinds hB hA
  have tg := tags hB hA
  obtain ⟨a1, a2, a3, a4, a5⟩ := Gw.takes (takeN B A) (start_wf ok hB)
  obtain ⟨o, ho⟩ : ∃ o : Key0 → Option Sn, o = lastV (numK (Sn.all B)) := ⟨_, rfl⟩
  generalize hg1 : (Gw.start B).run ((takeN B A).map .take) = g1 at a2 a3 a4 a5
  have box0 : ∀ n ∈ Sn.all A, n.num ∉ nums (Sn.all B) ∨ n.isB = false → g1.rows (some n.num) = none := fun n hn h => by
    rw [a4]
    cases e : (Gw.start B).rows (some n.num) with
    | none => rfl
    | some l =>
      exfalso
      have m := (start_rows ok hB).mp e
      rcases fam_key.mp (List.mem_map.mpr ⟨_, m, rfl⟩) with z | ⟨b, hb, ib, z⟩
      · cases z
      · have z : n.num = b.num := Option.some.inj z
        rcases h with h | h
        · exact h (by rw [z]; exact List.mem_map.mpr ⟨b, hb, rfl⟩)
        · have := kd n hn b hb z
          cases n <;> cases b <;> simp_all [kind, Sn.isB]
  have cond : ∀ n ∈ Sn.all A, Cond (o (some n.num)) n g1 := fun n hn => by
    unfold Cond
    rw [ho]
    cases e : lastV (numK (Sn.all B)) (some n.num) with
    | none =>
      intro _
      refine box0 n hn (.inl fun h => ?_)
      obtain ⟨m, hm, em⟩ := List.mem_map.mp h
      rw [← em, numK_some ndB hm] at e; cases e
    | some m =>
      obtain ⟨hm, em⟩ := numK_inv e
      refine ⟨kd n hn m hm em.symm, em, ?_, tg n hn m hm em⟩
      rw [a3]
      show (lastV (numK (Sn.all B)) (some n.num)).map Sn.bare = _
      rw [e]; rfl
  obtain ⟨b1, b2, b3, b4, b5, b6, b7⟩ := Gw.changes o (Sn.all A) a2 ndA cond
  generalize hg2 : g1.run ((Sn.all A).flatMap fun n => changeO (o (some n.num)) n) = g2 at b2 b3 b4 b5 b6 b7
  have u2 : ∀ x q, g2.around (some x) = some q → q = F.up x := fun x q e => by
    rw [b3] at e
    exact ((start_ar ok hB x q).mp (a5 x q e)).1.symm
  -- the rows before the puts
  have rows2 : ∀ f ∈ famN A, g2.rows f.1 = some ((earlierOf B f.1).filter fun n => !decide (n ∈ takeN B A)) := fun f hf => by
    have hk := fam_key.mp (List.mem_map.mpr ⟨f, hf, rfl⟩)
    by_cases fr : NewlyIn o (Sn.all A) f.1
    · rw [b6 _ fr]
      obtain ⟨n, hn, f1, f2, f3⟩ := fr
      have : earlierOf B f.1 = [] := by
        unfold earlierOf
        rw [f3]
        cases e : lastV (famN B) (some n.num) with
        | none => rfl
        | some l =>
          exfalso
          rcases fam_key.mp (List.mem_map.mpr ⟨_, lastV_mem e, rfl⟩) with z | ⟨b, hb, ib, z⟩
          · cases z
          · have z : n.num = b.num := Option.some.inj z
            rw [ho, z, numK_some ndB hb] at f1; cases f1
      rw [this]; rfl
    · rw [b7 _ fr, a4]
      have there : ∃ l, (Gw.start B).rows f.1 = some l := by
        rcases hk with e | ⟨n, hn, ib, e⟩
        · exact ⟨nums B, (start_rows ok hB).mpr (by rw [e]; exact List.mem_map.mpr ⟨(none, B), List.mem_cons_self, rfl⟩)⟩
        · cases e2 : o (some n.num) with
          | none => exact absurd ⟨n, hn, e2, ib, e⟩ fr
          | some m =>
            rw [ho] at e2
            obtain ⟨hm, em⟩ := numK_inv e2
            have kk := kd n hn m hm em.symm
            have ibm : m.isB = true := by cases n <;> cases m <;> simp_all [kind, Sn.isB]
            exact ⟨nums m.kids, (start_rows ok hB).mpr (by rw [e, ← em]; exact fam_box hm ibm)⟩
      obtain ⟨l, hl⟩ := there
      have : earlierOf B f.1 = l := by
        unfold earlierOf
        rw [show lastV (famN B) f.1 = some l from hl]; rfl
      rw [hl, this]; rfl
  have dueF : ∀ f ∈ famN A, f.2.Nodup ∧ (∀ x ∈ f.2, F.up x = f.1) ∧ ∃ R, g2.rows f.1 = some R ∧ (∀ x ∈ R, x ∈ f.2) ∧ (stay (earlierOf B f.1) f.2).Sublist f.2 ∧ (stay (earlierOf B f.1) f.2).Sublist R := fun f hf => by
    have hk := fam_key.mp (List.mem_map.mpr ⟨f, hf, rfl⟩)
    have inE : ∀ x ∈ earlierOf B f.1, F.up x = f.1 ∧ x ∈ nums (Sn.all B) := fun x hx => by
      unfold earlierOf at hx
      cases e : lastV (famN B) f.1 with
      | none => rw [e] at hx; cases hx
      | some l => rw [e] at hx; exact fam_up hB (lastV_mem e) hx
    have ndE : (earlierOf B f.1).Nodup := by
      unfold earlierOf
      cases e : lastV (famN B) f.1 with
      | none => exact .nil
      | some l => exact fam_nodup hB _ (lastV_mem e)
    have ndf := fam_nodup hA f hf
    refine ⟨ndf, fun x hx => (fam_up hA hf hx).1, _, rows2 f hf, fun x hx => ?_, stay_sub _ _, ?_⟩
    · obtain ⟨x1, x2⟩ := List.mem_filter.mp hx
      obtain ⟨y1, y2⟩ := inE x x1
      have inA : x ∈ nums (Sn.all A) := by
        rcases Classical.em (x ∈ nums (Sn.all A)) with h | h
        · exact h
        · exfalso
          have : x ∈ takeN B A := by
            obtain ⟨m, hm, em⟩ := List.mem_map.mp y2
            obtain ⟨q, hq, eq⟩ := List.mem_map.mp hm
            refine List.mem_map.mpr ⟨q, List.mem_filter.mpr ⟨hq, ?_⟩, by rw [eq]; exact em⟩
            have e1 : q.2.num = x := by rw [eq]; exact em
            have e2 : q.1 = f.1 := by rw [← (hB.1 q hq).2.1, e1]; exact y1
            unfold takeB
            rw [e1, decide_eq_false h, e2]
            rcases hk with e | ⟨n, hn, ib, e⟩
            · rw [e]; rfl
            · rw [e]
              show (true && decide (n.num ∈ nums (Sn.all A))) = true
              rw [decide_eq_true (show n.num ∈ nums (Sn.all A) from List.mem_map.mpr ⟨n, hn, rfl⟩)]; rfl
          rw [decide_eq_true this] at x2; cases x2
      obtain ⟨l, hl, hx2⟩ := fam_of hA inA
      rw [y1] at hl
      have e1 := fam_at ok hA hl
      have e2 := fam_at ok hA hf
      rw [← e2]
      simp only at e1
      rw [e1]; exact hx2
    · have s1 := stay_subE (l := f.2) ndE
      have e1 : (stay (earlierOf B f.1) f.2).filter (fun n => !decide (n ∈ takeN B A)) = stay (earlierOf B f.1) f.2 := List.filter_eq_self.mpr fun x hx => by
        have h1 := (fam_up hA hf ((stay_sub _ _).subset hx)).2
        have : x ∉ takeN B A := fun z => by
          obtain ⟨q, hq, e⟩ := List.mem_map.mp z
          have h2 := (List.mem_filter.mp hq).2
          unfold takeB at h2
          rw [e, decide_eq_true h1] at h2
          cases h2
        rw [decide_eq_false this]; rfl
      rw [← e1]
      exact s1.filter _
  obtain ⟨c1, c2, c3, c4⟩ := Gw.puts F.up (fun f => stay (earlierOf B f.1) f.2) (famN A) b2 (fam_keys ok hA) u2 dueF
  have er : (Gw.start B).run (opsO B A) = g2.run ((famN A).flatMap fun f => putsO f.1 (stay (earlierOf B f.1) f.2) f.2.reverse none) := by
    unfold opsO
    rw [Gw.run_app, Gw.run_app, hg1, ← hg2, ho]
  refine ⟨?_, ?_⟩
  · unfold opsO
    refine Gw.runs_app (Gw.runs_app a1 ?_) ?_
    · rw [hg1]; rw [ho] at b1; exact b1
    · rw [Gw.run_app, hg1]; rw [ho] at hg2; rw [hg2]; exact c1
  · rw [er]
    refine ⟨c3 (none, nums A) (List.mem_map.mpr ⟨(none, A), List.mem_cons_self, rfl⟩), fun q hq => ⟨?_, ?_⟩⟩
    · rw [c2]; exact b4 q hq
    · by_cases ib : q.isB = true
      · rw [if_pos ib]; exact c3 (some q.num, nums q.kids) (fam_box hq ib)
      · rw [if_neg ib, c4 (some q.num) fun z => ?_, b7 (some q.num) fun ⟨n, hn, f1, f2, f3⟩ => ?_]
        · exact box0 q hq (.inr (by simpa using ib))
        · have := num_inj ndA hq hn (Option.some.inj f3)
          rw [this] at ib; exact ib f2
        · rcases fam_key.mp z with z | ⟨b, hb, ibb, z⟩
          · cases z
          · have := num_inj ndA hq hb (Option.some.inj z)
            rw [this] at ib; exact ib ibb
end
end Pw
namespace Pw
open PySem PySem.Spec PyProof.Rows L2
def spDueT (n : Nat) : Sp := fun vs H Q _ => ∃ (F : Fst) (B A : List Sn) (v1 v2 : V), vs = [v1, v2] ∧ IsT H (.tup (Sn.toTs B)) v1 ∧ IsT H (.tup (Sn.toTs A)) v2 ∧ F.Ok ∧ FitAt F none B ∧ FitAt F none A ∧ Sn.hts B < n ∧ Sn.hts A < n ∧ n ≤ 13 ∧
  ∀ r H', IsT H' (.tup (patchT B A)) r → Oth [] H H' → Q r H'
/-! ### a row of the law -/
def numR (b : V × PyData) : Nat := match b.2 with
  | .list [_, .tuple [_, .int n]] => n.toNat
  | _ => 0
theorem numR_row (v : V) (i n : Nat) : numR (v, rowD i n) = n := rfl
def RowAt (p : Addr) (ix : Nat → Nat) (H : Hp) (n : Nat) (v : V) : Prop := ∃ t u, v = .ref t ∧ H t = some (.lst [.int (ix n : Int), .ref u]) ∧ H u = some (.tup [.str "take", .int (n : Int)]) ∧ t ≠ p
theorem RowAt.oth {p : Addr} {ix : Nat → Nat} {H H' : Hp} {n : Nat} {v : V} (h : RowAt p ix H n v) (o : Oth [p] H H') : RowAt p ix H' n v := by
  obtain ⟨t, u, e, h1, h2, h3⟩ := h
  exact ⟨t, u, e, o.keep t _ (by simp [h3]) h1, o.tup _ _ h2, h3⟩
theorem RowAt.dp {K : PySem.W.Frag} {p : Addr} {ix : Nat → Nat} {H : Hp} {n : Nat} {v : V} (h : RowAt p ix H n v) : Dp K H v (rowD (ix n) n) := by
  obtain ⟨t, u, rfl, h1, h2, _⟩ := h
  exact .lst (SqL.of h1) (.cons (.int _) (.cons (.tup (SqT.of h2) (.cons (.str _) (.cons (.int _) .nil))) .nil))
theorem row_bs {K : PySem.W.Frag} {p : Addr} {ix : Nat → Nat} {H : Hp} : ∀ {ns : List Nat} {out : List V}, Paired (RowAt p ix H) ns out →
    ∃ bs : List (V × PyData), bs.map (·.1) = out ∧ bs.map numR = ns ∧ ∀ b ∈ bs, (∃ l, b.1 = V.ref l) ∧ Dp K H b.1 b.2 ∧ b.2 = rowD (ix (numR b)) (numR b) ∧ RowAt p ix H (numR b) b.1
  | _, _, .nil => ⟨[], rfl, rfl, fun _ h => nomatch h⟩
  | n :: ns, v :: out, .cons r q => by
    obtain ⟨bs, h1, h2, h3⟩ := row_bs (K := K) q
    refine ⟨(v, rowD (ix n) n) :: bs, by rw [List.map_cons, h1], by rw [List.map_cons, h2]; rfl, fun b hb => ?_⟩
    rcases List.mem_cons.mp hb with rfl | hb
    · obtain ⟨t, u, e, _⟩ := id r
      exact ⟨⟨t, e⟩, r.dp, rfl, r⟩
    · exact h3 b hb
theorem rowD_alike (a b c d : Nat) : PySem.W.alike (rowD a b) (rowD c d) = true := by
  unfold rowD
  simp [PySem.W.alike, PySem.W.alikeAll]
theorem rowD_depth (a b : Nat) : (rowD a b).depth ≤ 8 := by
  unfold rowD
  simp [PyData.depth, PyData.depthAll]
/-! ### trees that == may look at -/
mutual
theorem Sn.dep1 : ∀ n : Sn, (Sn.all n.kids).length ≤ 1000 → Dep (2 * n.ht + 4) n.toT
  | .text k s, _ => .tup _ _ (by simp) fun t ht => by
    simp only [List.mem_cons, List.not_mem_nil, or_false] at ht
    rcases ht with rfl | rfl | rfl
    · exact .str _ _
    · exact .int _ _
    · exact .str _ _
  | .input k s, _ => .tup _ _ (by simp) fun t ht => by
    simp only [List.mem_cons, List.not_mem_nil, or_false] at ht
    rcases ht with rfl | rfl | rfl | rfl
    · exact .str _ _
    · exact .int _ _
    · exact .str _ _
    · exact .int _ _
  | .box k t ns, h => .tup _ _ (by simp) fun u hu => by
    simp only [List.mem_cons, List.not_mem_nil, or_false] at hu
    have h : (Sn.all ns).length ≤ 1000 := h
    rcases hu with rfl | rfl | rfl | rfl
    · exact .str _ _
    · exact .int _ _
    · exact .str _ _
    · have e : 2 * (Sn.box k t ns).ht + 3 = 2 * Sn.hts ns + 5 := by show 2 * (Sn.hts ns + 1) + 3 = _; omega
      rw [e]
      have l := Sn.len_all ns
      exact .tup _ _ (by rw [Sn.toTs_map, List.length_map]; omega) (Sn.depL ns h)
theorem Sn.depL : ∀ ns : List Sn, (Sn.all ns).length ≤ 1000 → ∀ t ∈ Sn.toTs ns, Dep (2 * Sn.hts ns + 4) t
  | [], _ => fun _ h => nomatch h
  | n :: r, h => fun t ht => by
    rw [Sn.all_cons, List.length_append, List.length_cons] at h
    have e : Sn.hts (n :: r) = max n.ht (Sn.hts r) := rfl
    rcases List.mem_cons.mp ht with rfl | ht
    · exact (Sn.dep1 n (by omega)).mono (by omega)
    · exact (Sn.depL r (by omega) t ht).mono (by omega)
end
def TextOk (q : Sn) : Prop := (∀ k s, q = .text k s → PyData.strOk s = true) ∧ ∀ k t ns, q = .box k t ns → PyData.strOk t = true
theorem sok_text : PyData.strOk "text" = true := by decide +kernel
theorem sok_input : PyData.strOk "input" = true := by decide +kernel
theorem sok_box : PyData.strOk "box" = true := by decide +kernel
theorem sok_q : PyData.strOk "q" = true := by decide +kernel
theorem sok_tag (k : Nat) : PyData.strOk (tagOf k) = true := by
  unfold tagOf
  split <;> decide +kernel
mutual
theorem Sn.sok1 : ∀ n : Sn, TextOk n → (∀ q ∈ Sn.all n.kids, TextOk q) → n.toT.sok = true
  | .text k s, h, _ => by simp [Sn.toT, T.sok, T.soks, sok_text, h.1 k s rfl]
  | .input k s, h, _ => by simp [Sn.toT, T.sok, T.soks, sok_input, sok_q]
  | .box k t ns, h, g => by simp [Sn.toT, T.sok, T.soks, sok_box, h.2 k t ns rfl, Sn.sokL ns g]
theorem Sn.sokL : ∀ ns : List Sn, (∀ q ∈ Sn.all ns, TextOk q) → T.soks (Sn.toTs ns) = true
  | [], _ => rfl
  | n :: r, h => by
    rw [Sn.all_cons] at h
    simp only [Sn.toTs, T.soks]
    rw [Sn.sok1 n (h n (by simp)) (fun q hq => h q (by simp [hq])), Sn.sokL r fun q hq => h q (by simp [hq])]
    rfl
end
theorem Sn.all_all {ns : List Sn} : ∀ {n q : Sn}, n ∈ Sn.all ns → q ∈ Sn.all n.kids → q ∈ Sn.all ns := by
  have go : ∀ (m : Nat) (ns : List Sn), Sn.hts ns < m → ∀ {n q : Sn}, n ∈ Sn.all ns → q ∈ Sn.all n.kids → q ∈ Sn.all ns := fun m => by
    induction m with
    | zero => intro ns h; omega
    | succ m ih =>
      intro ns
      induction ns with
      | nil => intro _ n q h; cases h
      | cons a r ihr =>
        intro hm n q hn hq
        have e : Sn.hts (a :: r) = max a.ht (Sn.hts r) := rfl
        rw [Sn.all_cons] at hn ⊢
        rcases List.mem_append.mp hn with hn | hn
        · rcases List.mem_cons.mp hn with rfl | hn
          · exact List.mem_append_left _ (List.mem_cons_of_mem _ hq)
          · refine List.mem_append_left _ (List.mem_cons_of_mem _ (ih a.kids ?_ hn hq))
            cases a with
            | text _ _ => cases hn
            | input _ _ => cases hn
            | box k t is => have : (Sn.box k t is).ht = Sn.hts is + 1 := rfl; show Sn.hts is < m; omega
        · exact List.mem_append_right _ (ihr (by omega) hn hq)
  intro n q
  exact go _ ns (Nat.lt_succ_self _)
theorem Sn.ht_all {ns : List Sn} : ∀ {n : Sn}, n ∈ Sn.all ns → n.ht ≤ Sn.hts ns := by
  have go : ∀ (m : Nat) (ns : List Sn), Sn.hts ns < m → ∀ {n : Sn}, n ∈ Sn.all ns → n.ht ≤ Sn.hts ns := fun m => by
    induction m with
    | zero => intro ns h; omega
    | succ m ih =>
      intro ns
      induction ns with
      | nil => intro _ n h; cases h
      | cons a r ihr =>
        intro hm n hn
        have e : Sn.hts (a :: r) = max a.ht (Sn.hts r) := rfl
        rw [Sn.all_cons] at hn
        rcases List.mem_append.mp hn with hn | hn
        · rcases List.mem_cons.mp hn with rfl | hn
          · omega
          · cases a with
            | text _ _ => cases hn
            | input _ _ => cases hn
            | box k t is =>
              have e2 : (Sn.box k t is).ht = Sn.hts is + 1 := rfl
              have := ih is (by omega) hn
              omega
        · have := ihr (by omega) hn
          omega
  intro n
  exact go _ ns (Nat.lt_succ_self _)
section
variable {F : Fst} {ns : List Sn}
theorem fit_text (h : FitAt F none ns) : ∀ q ∈ Sn.all ns, TextOk q := fun q hq => by
  obtain ⟨x, hx, rfl⟩ := List.mem_map.mp hq
  obtain ⟨_, b, c⟩ := (h.1 x hx).2.2
  exact ⟨c, fun k t is e => by rw [b k t is e]; exact sok_tag k⟩
theorem fit_eqb (ok : F.Ok) (h : FitAt F none ns) (hh : Sn.hts ns < 13) : ∀ q ∈ Sn.all ns, q.toT.Eqb := fun q hq => by
  have l := all_le ok h
  have lk : (Sn.all q.kids).length ≤ 1000 := by
    have := Sn.kids_sub (Nat.le_refl _) hq
    omega
  refine ⟨(Sn.dep1 q lk).mono ?_, Sn.sok1 q (fit_text h q hq) fun x hx => fit_text h x (Sn.all_all hq hx)⟩
  have : q.ht ≤ Sn.hts ns := Sn.ht_all hq
  omega
theorem fit_dep (ok : F.Ok) (h : FitAt F none ns) (hh : Sn.hts ns < 13) : Dep 40 (.tup (Sn.toTs ns)) := by
  have l := all_le ok h
  have l2 := Sn.len_all ns
  exact .tup 39 _ (by rw [Sn.toTs_map, List.length_map]; omega) fun t ht => (Sn.depL ns (by omega) t ht).mono (by omega)
end
theorem nk_num {n m : Sn} (h : n.toT.nk = m.toT.nk) : n.num = m.num := by
  cases n <;> cases m <;> simp [Sn.toT, T.nk, T.nks] at h <;> (show _ = _; simp only [Sn.num]; omega)
theorem nk_same {n : Sn} {l : List Sn} {m : Sn} (nd : (nums l).Nodup) (hm : m ∈ l) (e : m.num = n.num) : n.toT.nk ∈ (l.map Sn.toT).map T.nk ↔ m.toT.nk = n.toT.nk := by
  constructor
  · intro h
    obtain ⟨t, ht, h⟩ := List.mem_map.mp h
    obtain ⟨x, hx, rfl⟩ := List.mem_map.mp ht
    have : x = m := num_inj nd hx hm ((nk_num h).trans e.symm)
    rw [← this]; exact h
  · intro h
    exact List.mem_map.mpr ⟨m.toT, List.mem_map.mpr ⟨m, hm, rfl⟩, h⟩
end Pw
namespace Pw
open PySem PySem.Spec PyProof.Rows L2
theorem flatm_len {α β : Type} (g : α → List β) (c : Nat) : ∀ l : List α, (∀ a ∈ l, (g a).length ≤ c) → (l.flatMap g).length ≤ c * l.length
  | [], _ => Nat.le_refl _
  | a :: l, h => by
    rw [List.flatMap_cons, List.length_append, List.length_cons, Nat.mul_succ]
    have h1 := h a List.mem_cons_self
    have h2 := flatm_len g c l fun x hx => h x (List.mem_cons_of_mem _ hx)
    omega
theorem patch_len {B A : List Sn} (cB : (Sn.all B).length ≤ 12) (cA : (Sn.all A).length ≤ 12) : (patchT B A).length ≤ 1000 := by
  unfold patchT
  rw [List.length_append, List.length_append]
  have h1 : (takeT B A).length ≤ 12 := by
    unfold takeT
    rw [List.length_map]
    have := List.length_filter_le (takeB A) (Sn.lst none B)
    have := Sn.all_len none B
    omega
  have h2 := flatm_len (fun n => changeT (lastV (numK (Sn.all B)) (some n.num)) n) 1 (Sn.all A) fun n _ => changeT_len _ n
  have h3 := flatm_len (fun f : Key0 × List Nat => putsT f.1 (stay (earlierOf B f.1) f.2) f.2.reverse none) 12 (famN A) fun f hf => by
    have a := putsT_len f.1 (stay (earlierOf B f.1) f.2) f.2.reverse none
    have b := famN_len hf
    rw [List.length_reverse] at a
    omega
  have h4 := famN_many A
  omega
theorem dep_k0 (n : Nat) (p : Key0) : Dep (n + 1) (k0T p) := by
  cases p with
  | none => exact .non _
  | some k => exact .int _ _
theorem change_dep (o : Option Sn) (n : Sn) (t : T) (ht : t ∈ changeT o n) : Dep 39 t := by
  have one : ∀ (c : Prop) [Decidable c] (u : T), t ∈ (if c then [] else [u]) → t = u := fun c _ u h => by
    split at h
    · cases h
    · exact List.mem_singleton.mp h
  cases o with
  | none =>
    have ht : t ∈ [T.tup [.str "make", n.bare.toT]] := ht
    rw [List.mem_singleton] at ht
    subst ht
    refine .tup _ _ (by simp) fun u hu => ?_
    simp only [List.mem_cons, List.not_mem_nil, or_false] at hu
    rcases hu with rfl | rfl
    · exact .str _ _
    · refine (Sn.dep1 n.bare ?_).mono ?_
      · cases n <;> exact Nat.zero_le _
      · cases n <;> simp [Sn.bare, Sn.ht, Sn.hts]
  | some m =>
    cases n with
    | text k s =>
      cases m with
      | text k' s' =>
        rw [one _ _ ht]
        refine .tup _ _ (by simp) fun u hu => ?_
        simp only [List.mem_cons, List.not_mem_nil, or_false] at hu
        rcases hu with rfl | rfl | rfl
        · exact .str _ _
        · exact .int _ _
        · exact .str _ _
      | input _ _ => cases ht
      | box _ _ _ => cases ht
    | input k s =>
      cases m with
      | text _ _ => cases ht
      | input k' s' =>
        rw [one _ _ ht]
        refine .tup _ _ (by simp) fun u hu => ?_
        simp only [List.mem_cons, List.not_mem_nil, or_false] at hu
        rcases hu with rfl | rfl | rfl
        · exact .str _ _
        · exact .int _ _
        · exact .int _ _
      | box _ _ _ => cases ht
    | box k s ks => cases m <;> cases ht
theorem patch_dep {B A : List Sn} (cB : (Sn.all B).length ≤ 12) (cA : (Sn.all A).length ≤ 12) : Dep 40 (.tup (patchT B A)) := by
  refine .tup 39 _ (Nat.le_trans (patch_len cB cA) (by decide)) fun t ht => ?_
  unfold patchT at ht
  rcases List.mem_append.mp ht with ht | ht
  · rcases List.mem_append.mp ht with ht | ht
    · unfold takeT at ht
      obtain ⟨q, _, rfl⟩ := List.mem_map.mp ht
      exact .tup _ _ (by simp) fun u hu => by
        simp only [List.mem_cons, List.not_mem_nil, or_false] at hu
        rcases hu with rfl | rfl
        · exact .str _ _
        · exact .int _ _
    · obtain ⟨n, hn, ht⟩ := List.mem_flatMap.mp ht
      exact change_dep _ n t ht
  · obtain ⟨f, _, ht⟩ := List.mem_flatMap.mp ht
    have go : ∀ (r : List Nat) (b : Key0), t ∈ putsT f.1 (stay (earlierOf B f.1) f.2) r b → Dep 39 t := fun r => by
      induction r with
      | nil => intro b h; cases h
      | cons n r ih =>
        intro b h
        rw [putsT] at h
        rcases List.mem_append.mp h with h | h
        · split at h
          · cases h
          · simp only [List.mem_singleton] at h
            subst h
            refine .tup _ _ (by simp) fun u hu => ?_
            simp only [List.mem_cons, List.not_mem_nil, or_false] at hu
            rcases hu with rfl | rfl | rfl | rfl
            · exact .str _ _
            · exact .int _ _
            · exact dep_k0 _ _
            · exact dep_k0 _ _
        · exact ih _ h
    exact go _ _ ht
end Pw
namespace Pw
open PySem PySem.Spec PyProof.Rows L2
open LamX NdefX
/-! ### objects that are lent: known to the object while a call runs -/
abbrev HO.any : HO := .ext fun _ => True
abbrev Lnd := Addr → Option Obj
def wth (H : Hp) (E : Lnd) : Hp := fun b => match E b with
  | some o => some (.frz o HO.any)
  | none => H b
def wout (H : Hp) (E : Lnd) : Hp := fun b => match E b with
  | some _ => none
  | none => H b
section
variable {H H' : Hp} {E : Lnd} {b : Addr} {o : Obj} {u : HO}
theorem wth_in (h : E b = some o) : wth H E b = some (.frz o HO.any) := by unfold wth; rw [h]
theorem wth_not (h : E b = none) : wth H E b = H b := by unfold wth; rw [h]
theorem wout_in (h : E b = some o) : wout H E b = none := by unfold wout; rw [h]
theorem wout_not (h : E b = none) : wout H E b = H b := by unfold wout; rw [h]
theorem wout_some (h : wout H E b = some u) : E b = none ∧ H b = some u := by
  unfold wout at h
  cases e : E b with
  | none => rw [e] at h; exact ⟨rfl, h⟩
  | some o => rw [e] at h; cases h
end
/-- what may be lent: untracked things, or such that are told by what is true of them -/
def Lends (H : Hp) (h : Heap) (E : Lnd) : Prop := ∀ b o, E b = some o → h.get? b = some o ∧ (H b = none ∨ ∃ φ, H b = some (.ext φ))
def Lent (H : Hp) (E : Lnd) : Prop := ∀ b o, E b = some o → H b = some (.frz o HO.any)
theorem Lent.oth {S : List Addr} {H H' : Hp} {E : Lnd} (h : Lent H E) (o : Oth S H H') (n : ∀ b ∈ S, E b = none) : Lent H' E := fun b ob e => o.keep b _ (fun z => by rw [n b z] at e; cases e) (h b ob e)
section
variable {P : Program} {w : World} {K : PySem.W.Frag} {mg : Str → Option Value} {base : Heap} {A : Around} {outer : List Env} {s s' : Shared} {H H' : Hp} {E : Lnd} {Q Q' : VK} {u : Value}
theorem env0_lend (e : Env0 P w K mg base A outer s H) (L : Lends H s.heap E) (nb : ∀ b o, E b = some o → base.get? b = none) (nf : ∀ b o, E b = some o → b ∉ frs outer) : Env0 P w K mg base A outer s (wth H E) := by
  refine ⟨e.frames, e.mod, fun b o g => ⟨(e.bs b o g).1, ?_⟩, e.bsz, e.funs, fun b hb => ?_, fun b o g => ?_, e.bare⟩
  · cases q : E b with
    | none => rw [wth_not q]; exact (e.bs b o g).2
    | some ob => rw [nb b ob q] at g; cases g
  · cases q : E b with
    | none => rw [wth_not q]; exact e.frf b hb
    | some ob => exact absurd hb (nf b ob q)
  · cases q : E b with
    | some ob =>
      rw [wth_in q] at g
      cases g
      exact ⟨(L b ob q).1, trivial, ⟨ob, (L b ob q).1⟩, fun _ _ _ _ => trivial⟩
    | none =>
      rw [wth_not q] at g
      refine (e.hok b o g).stay (fun c v _ r => r) (fun c r => ?_) fun c xs r => ?_
      · cases q2 : E c with
        | none => rw [wth_not q2]; exact r
        | some ob =>
          rcases (L c ob q2).2 with z | ⟨φ, z⟩ <;> rw [z] at r <;> cases r
      · cases q2 : E c with
        | none => rw [wth_not q2]; exact r
        | some ob =>
          rcases (L c ob q2).2 with z | ⟨φ, z⟩ <;> rw [z] at r <;> cases r
/-- what was lent is forgotten -/
theorem env0_take (e : Env0 P w K mg base A outer s H) (L : Lent H E) : Env0 P w K mg base A outer s (wout H E) := by
  have no : ∀ b u, H b = some u → (∀ o, u ≠ .frz o HO.any) → E b = none := fun b u h n => by
    cases q : E b with
    | none => rfl
    | some ob =>
      have := L b ob q
      rw [h] at this
      exact absurd (Option.some.inj this) (n ob)
  refine ⟨e.frames, e.mod, fun b o g => ⟨(e.bs b o g).1, ?_⟩, e.bsz, e.funs, fun b hb => ?_, fun b o g => ?_, e.bare⟩
  · cases q : E b with
    | none => rw [wout_not q]; exact (e.bs b o g).2
    | some ob => exact wout_in q
  · cases q : E b with
    | none => rw [wout_not q]; exact e.frf b hb
    | some ob => exact wout_in q
  · obtain ⟨q, g'⟩ := wout_some g
    exact (e.hok b o g').stay (fun c v _ r => r) (fun c r => by rw [wout_not (no c _ r fun _ z => nomatch z)]; exact r) fun c xs r => by rw [wout_not (no c _ r fun _ z => nomatch z)]; exact r
/-- behind a call to which things were lent -/
theorem ce_back (L : Lends H s.heap E) (h : CE outer P w (wth H E) s Q' u s') (q : ∀ v H', Q' v H' → Q v (wout H' E)) : CE outer P w H s Q u s' := by
  obtain ⟨v, H', os, bare, un, hok, r, hq⟩ := h
  have fz : ∀ b o, E b = some o → H' b = some (.frz o HO.any) := fun b o e => un.frzs b o _ (wth_in e)
  have at_ : ∀ b u, H b = some u → (∀ φ, u ≠ .ext φ) → E b = none := fun b u e n => by
    cases q : E b with
    | none => rfl
    | some ob =>
      rcases (L b ob q).2 with z | ⟨φ, z⟩
      · rw [z] at e; cases e
      · rw [z] at e; exact absurd (Option.some.inj e).symm (n φ)
  have kp : ∀ b ob, E b = some ob → s'.heap.get? b = some ob := fun b ob e => (hok b _ (fz b ob e)).1
  refine ⟨v, wout H' E, os, bare, ⟨fun b o g n hb hx => ?_, fun b o g n hb hx => ?_, fun b o g n hx => ?_, un.there, fun b xs g => ?_, fun b ob xs g => ?_, fun b ps g => ?_⟩, fun b o g => ?_, r, q v H' hq⟩
  · cases q : E b with
    | none => exact un.keep b o g (by rw [wth_not q]; exact n) hb hx
    | some ob =>
      have := (L b ob q).1
      rw [g] at this; cases this
      exact kp b o q
  · cases q : E b with
    | none => exact un.slot b o g (by rw [wth_not q]; exact n) hb hx
    | some ob =>
      have := (L b ob q).1
      rw [g] at this; cases this
      exact ⟨o.slots, kp b o q⟩
  · cases q : E b with
    | none => rw [wout_not q]; exact un.free b o g (by rw [wth_not q]; exact n) hx
    | some ob => exact wout_in q
  · have q := at_ b _ g (fun _ z => nomatch z)
    rw [wout_not q]; exact un.tups b xs (by rw [wth_not q]; exact g)
  · have q := at_ b _ g (fun _ z => nomatch z)
    rw [wout_not q]; exact un.frzs b ob xs (by rw [wth_not q]; exact g)
  · have q := at_ b _ g (fun _ z => nomatch z)
    rw [wout_not q]; exact un.tbls b ps (by rw [wth_not q]; exact g)
  · obtain ⟨q, g'⟩ := wout_some g
    have no : ∀ c u, H' c = some u → (∀ o, u ≠ .frz o HO.any) → E c = none := fun c u h n => by
      cases q : E c with
      | none => rfl
      | some ob =>
        have := fz c ob q
        rw [h] at this
        exact absurd (Option.some.inj this) (n ob)
    exact (hok b o g').stay (fun c v _ r => r) (fun c r => by rw [wout_not (no c _ r fun _ z => nomatch z)]; exact r) fun c xs r => by rw [wout_not (no c _ r fun _ z => nomatch z)]; exact r
/-- behind a call for which what was lent had been forgotten -/
theorem ce_again (L : Lent H E) (ho : HOk P w H s.heap) (nf : ∀ b o, E b = some o → b ∉ frs outer) (h : CE outer P w (wout H E) s Q' u s') (q : ∀ v H', Q' v H' → (∀ b o, E b = some o → H' b = none) → Q v (wth H' E)) : CE outer P w H s Q u s' := by
  obtain ⟨v, H', os, bare, un, hok, r, hq⟩ := h
  have g0 : ∀ b ob, E b = some ob → s.heap.get? b = some ob := fun b ob e => (ho b _ (L b ob e)).1
  have kp : ∀ b ob, E b = some ob → s'.heap.get? b = some ob := fun b ob e => un.keep b ob (g0 b ob e) (wout_in e) (nf b ob e) (by simp)
  have hn : ∀ b ob, E b = some ob → H' b = none := fun b ob e => un.free b ob (g0 b ob e) (wout_in e) (by simp)
  have no : ∀ b u, H b = some u → (∀ o, u ≠ .frz o HO.any) → E b = none := fun b u h n => by
    cases q : E b with
    | none => rfl
    | some ob =>
      have := L b ob q
      rw [h] at this
      exact absurd (Option.some.inj this) (n ob)
  refine ⟨v, wth H' E, os, bare, ⟨fun b o g n hb hx => ?_, fun b o g n hb hx => ?_, fun b o g n hx => ?_, un.there, fun b xs g => ?_, fun b ob xs g => ?_, fun b ps g => ?_⟩, fun b o g => ?_, r, q v H' hq hn⟩
  · cases q : E b with
    | none => exact un.keep b o g (by rw [wout_not q]; exact n) hb hx
    | some ob => rw [L b ob q] at n; cases n
  · cases q : E b with
    | none => exact un.slot b o g (by rw [wout_not q]; exact n) hb hx
    | some ob => rw [L b ob q] at n; cases n
  · cases q : E b with
    | none => rw [wth_not q]; exact un.free b o g (by rw [wout_not q]; exact n) hx
    | some ob => rw [L b ob q] at n; cases n
  · have q := no b _ g (fun _ z => nomatch z)
    rw [wth_not q]; exact un.tups b xs (by rw [wout_not q]; exact g)
  · cases q : E b with
    | none => rw [wth_not q]; exact un.frzs b ob xs (by rw [wout_not q]; exact g)
    | some oc =>
      have := L b oc q
      rw [g] at this
      rw [wth_in q, ← Option.some.inj this]
  · have q := no b _ g (fun _ z => nomatch z)
    rw [wth_not q]; exact un.tbls b ps (by rw [wout_not q]; exact g)
  · cases q : E b with
    | some ob =>
      rw [wth_in q] at g
      cases g
      exact ⟨kp b ob q, trivial, ⟨ob, kp b ob q⟩, fun _ _ _ _ => trivial⟩
    | none =>
      rw [wth_not q] at g
      refine (hok b o g).stay (fun c v _ r => r) (fun c r => ?_) fun c xs r => ?_
      · cases q2 : E c with
        | none => rw [wth_not q2]; exact r
        | some ob => rw [hn c ob q2] at r; cases r
      · cases q2 : E c with
        | none => rw [wth_not q2]; exact r
        | some ob => rw [hn c ob q2] at r; cases r
end
/-! ### the lambda's object -/
def LamO (f : Addr) (q : Str) (params : Arguments) (body : Expr) (scope : Scope) (cl : List (Str × Addr)) (c : Addr) : HO :=
  .ext fun h => ∃ (pm ctv : Value), h.get? f = some (PySem.W.kla_obj "<lambda>" q params body scope cl pm c ctv)
theorem lamO_at {P : Program} {w : World} {H : Hp} {h : Heap} {f c : Addr} {q : Str} {params : Arguments} {body : Expr} {scope : Scope} {cl : List (Str × Addr)} (hok : HOk P w H h) (e : H f = some (LamO f q params body scope cl c)) :
    ∃ (pm ctv : Value), h.get? f = some (PySem.W.kla_obj "<lambda>" q params body scope cl pm c ctv) := by
  obtain ⟨z, _, _⟩ := hok f _ e
  exact z
section
variable {X : Cx} {pins : List (Addr × Obj)} {σ : L2.St} {H : Hp} {s : Shared}
theorem inv_lam {q : Str} {params : Arguments} {body : Expr} {scope : Scope} {cl : List (Str × Addr)} {c : Addr} {t' : Nat} {pm ctv : Value} (I : Inv X pins σ H s) :
    Inv X pins σ (upd H s.heap.objs.size (LamO s.heap.objs.size q params body scope cl c)) { s with heap := s.heap.push (PySem.W.kla_obj "<lambda>" q params body scope cl pm c ctv), toks := t' } := by
  refine I.laid (a := s.heap.objs.size) (fun b u e => Heap.get?_push_of_some _ e) (Nat.le_refl _) ?_
  have e : (s.heap.push (PySem.W.kla_obj "<lambda>" q params body scope cl pm c ctv)).get? s.heap.objs.size = some (PySem.W.kla_obj "<lambda>" q params body scope cl pm c ctv) := Heap.get?_push_size _ rfl
  exact ⟨⟨pm, ctv, e⟩, ⟨_, e⟩, fun h1 h2 ⟨p, t, z⟩ st => ⟨p, t, st _ z⟩⟩
/-- the lambda is made: its code object is new, or found in the table -/
theorem lam_make3 {T : List (Addr × Str)} {c P : Addr} {params : Arguments} {body : Expr} {scope : Scope} {pos : Pos} {E : Value → Shared → Prop} {Q : Value → Shared → Prop} (I : Inv X pins σ H s) (TB : TabB X.base X.mg c P) (hcode : X.env.code = .ref c)
    (hm : (P, X.env.qual ++ "<lambda>") ∈ T) (hu : ∀ p ∈ T, p.1 = P → p.2 = X.env.qual ++ "<lambda>") (hT : Tabs T H) (hdef : defaultsOf params X.env = ([], [])) (hfree : ∀ y ∈ scope.names, y.2 = .free → ∃ c, X.env.cells.lookup y.1 = some c)
    (h : ∀ (f c' : Addr) (H1 : Hp) (s' : Shared), Inv X pins σ H1 s' → ExtN H H1 → (∀ b, H1 b = Option.none → H b = Option.none) → Tabs T H1 → H f = none → H1 f = some (LamO f (X.env.qual ++ "<lambda>") params body scope (cloFrom X.env.cells scope.names []) c') → H1 c' = some (CodeO c' (X.env.qual ++ "<lambda>")) → c' ≠ f → Q (.ref f) s') :
    wpAny (model X.prog X.w) X.A (eval (.Lambda params body scope pos) X.env) Q E s := by
  obtain ⟨ps, hP, ht, ha⟩ := hT _ hm
  refine PySem.W.kla_eval hdef ?_
  have bP : s.heap.BuiltinsAt X.mg P := TB.bm.keeps I.bk
  have hP' : s.heap.get? P = some { cls := .none, data := .fields ps } := I.hok P _ hP
  cases hc : codeAmong pos ps.toList with
  | none =>
    refine PySem.W.kla_makeFunction (mg := X.mg) (c := c) (P := P) (ps := ps) (closure_ok hfree) I.ok.glob (I.mod.glob.keeps I.bk) hcode (TB.code.keeps I.bk) hP' ht hc TB.gP bP fun c' ctv h' tk hx hge hlt hrec htb => ?_
    obtain ⟨c2, oc, vs, t, e2, hoc, hd, hv⟩ := hrec
    cases e2
    have nC : H c' = none := I.hok.fresh hge
    have I1 := inv_table (t' := tk) (more := #[rawInt pos.line, rawInt pos.col, .ref c']) (h' := h') I hP (fun b o hb e => hx b o hb e) htb hge ⟨oc, vs, t, hoc, hd, hv⟩
    have hE : ExtN H (upd (upd H P (.tbl (ps ++ #[rawInt pos.line, rawInt pos.col, .ref c']))) c' (CodeO c' (X.env.qual ++ "<lambda>"))) := fun b o e n => by
      rw [upd_ne (ne_of_none e nC), upd_ne (fun z => n ps (Option.some.inj (e.symm.trans (by rw [z]; exact hP))))]
      exact e
    have eL : (ps ++ #[rawInt pos.line, rawInt pos.col, .ref c']).toList = ps.toList ++ [rawInt pos.line, rawInt pos.col, .ref c'] := by simp
    have T1 : Tabs T (upd (upd H P (.tbl (ps ++ #[rawInt pos.line, rawInt pos.col, .ref c']))) c' (CodeO c' (X.env.qual ++ "<lambda>"))) := fun p hp => by
      by_cases hb : p.1 = P
      · rw [hu p hp hb, hb]
        refine ⟨_, by rw [upd_ne (ne_of_none hP nC), upd_same], by rw [eL]; exact PySem.TriplesOk_snoc _ _ _ _ ht, fun p' cv hcv => ?_⟩
        rw [eL] at hcv
        rcases among_app _ ht hcv with z | z
        · obtain ⟨c0, e1, e2⟩ := ha p' cv z
          exact ⟨c0, e1, hE _ _ e2 codeO_ne⟩
        · exact ⟨c', z, upd_same⟩
      · obtain ⟨ps', a1, a2, a3⟩ := hT p hp
        refine ⟨ps', by rw [upd_ne (ne_of_none a1 nC), upd_ne hb]; exact a1, a2, fun p' cv hcv => ?_⟩
        obtain ⟨c0, e1, e2⟩ := a3 p' cv hcv
        exact ⟨c0, e1, hE _ _ e2 codeO_ne⟩
    have nF := I1.hok.fresh (Nat.le_refl _)
    have I2 := inv_lam (q := X.env.qual ++ "<lambda>") (params := params) (body := body) (scope := scope) (cl := cloFrom X.env.cells scope.names []) (c := c') (t' := tk) (pm := (X.mg "__name__").getD .none) (ctv := ctv) I1
    refine h h'.objs.size c' _ _ I2 (fun b o e n => ?_) (fun b e => upd_none (upd_none (upd_none e))) (T1.ext fun b o e => ?_) (I.hok.fresh (Nat.le_trans hge (Nat.le_of_lt hlt))) upd_same ?_ (Nat.ne_of_lt hlt)
    · have e1 := hE b o e n
      exact (upd_ne (ne_of_none e1 nF)).trans e1
    · exact (upd_ne (ne_of_none e nF)).trans e
    · exact (upd_ne (Nat.ne_of_lt hlt)).trans upd_same
  | some cv =>
    obtain ⟨c', e, hco⟩ := ha pos cv hc
    subst e
    refine PySem.W.kla_makeFunctionHit (mg := X.mg) (c := c) (P := P) (ps := ps) (closure_ok hfree) I.ok.glob (I.mod.glob.keeps I.bk) hcode (TB.code.keeps I.bk) hP' ht hc bP fun ctv h' tk hx hsz => ?_
    have I1 : Inv X pins σ H { s with heap := h', toks := tk } := I.kept hx
    have nF : H h'.objs.size = none := I1.hok.fresh (Nat.le_refl _)
    have I2 := inv_lam (q := X.env.qual ++ "<lambda>") (params := params) (body := body) (scope := scope) (cl := cloFrom X.env.cells scope.names []) (c := c') (t' := tk) (pm := (X.mg "__name__").getD .none) (ctv := ctv) I1
    refine h h'.objs.size c' _ _ I2 (fun b o e n => ?_) (fun b e => upd_none e) (hT.ext fun b o e => ?_) nF upd_same ?_ (ne_of_none hco nF)
    · exact (upd_ne (ne_of_none e nF)).trans e
    · exact (upd_ne (ne_of_none e nF)).trans e
    · exact (upd_ne (ne_of_none hco nF)).trans hco
end
/-- the reading of lambda ..: body as a value -/
def tLamV (T : List (Addr × Str)) (O : Addr → Addr → HO) (q : Str) : TE := fun _ H Q => Tabs T H ∧ ∀ (f c' : Addr) (H1 : Hp), ExtN H H1 → (∀ b, H1 b = Option.none → H b = Option.none) → Tabs T H1 → H f = none → H1 f = some (O f c') → H1 c' = some (CodeO c' q) → (∀ u, H1 f ≠ some (CodeO f u)) → Q (.ref f) H1
theorem pe_lamV {X : Cx} {T : List (Addr × Str)} {c P : Addr} {params : Arguments} {body : Expr} {scope : Scope} {pos : Pos} (TB : TabB X.base X.mg c P) (hcode : X.env.code = .ref c)
    (hm : (P, X.env.qual ++ "<lambda>") ∈ T) (hu : ∀ p ∈ T, p.1 = P → p.2 = X.env.qual ++ "<lambda>") (hdef : defaultsOf params X.env = ([], []))
    (hfree : ∀ y ∈ scope.names, y.2 = .free → X.env.scope.names.lookup y.1 = some .cell ∨ X.env.scope.names.lookup y.1 = some .free) :
    PE X (.Lambda params body scope pos) (tLamV T (fun f c' => LamO f (X.env.qual ++ "<lambda>") params body scope (cloFrom X.env.cells scope.names []) c') (X.env.qual ++ "<lambda>")) := by
  refine ⟨fun pins s σ H Q I h => ?_⟩
  obtain ⟨hT, h⟩ := h
  refine lam_make3 I TB hcode hm hu hT hdef (fun y hy e => (hfree y hy e).elim (fun z => I.ok.has _ (.inl z)) fun z => I.ok.has _ (.inr z)) fun f c' H1 s' I1 e1 e2 e3 e4 e5 e6 e7 => ⟨.ref f, H1, I1, rfl, h f c' H1 e1 e2 e3 e4 e5 e6 fun u e => ?_⟩
  obtain ⟨pm, ctv, g1⟩ := lamO_at I1.hok e5
  obtain ⟨⟨oc, vs, t, g2, g3, _⟩, _, _⟩ := I1.hok f _ e
  rw [g1] at g2
  cases g2
  cases g3
/-! ### a call of it -/
abbrev lamF (q : Str) (params : Arguments) (scope : Scope) (cl : List (Str × Addr)) (c' : Addr) : NF := ⟨"<lambda>", q, params, [], scope, cl, c'⟩
theorem lam_run {CX : CXT} {P : Program} {w : World} {K : PySem.W.Frag} {mg : Str → Option Value} {base : Heap} {N ps fr : List Str} {q : Str} {params : Arguments} {body : Expr} {scope : Scope} {cl : List (Str × Addr)} {f c' : Addr} {pm ctv : Value} {k : Nat} {tb : TE}
    {A : Around} {outer : List Env} {s : Shared} {H : Hp} {us : List Value} {vs : List V} {ws : List (Option V)} {Q : VK} {E : XK}
    (S : NScope N ps fr scope) (hb : bindArgs (PySem.W.kla_fn "<lambda>" q params body scope cl pm (.ref c') ctv) ⟨us, []⟩ = pure (ps.zip us)) (hr : Room (k + 1) A) (e0 : Env0 P w K mg base A outer s H) (ho : s.heap.get? f = some (PySem.W.kla_obj "<lambda>" q params body scope cl pm c' ctv)) (hc : s.heap.CodeRec (.ref c') q)
    (C : CellsAt cl fr ws s.heap H) (r : Vals vs us) (hl : vs.length = ps.length)
    (hbody : Room k (A.deeper (envF (lamF q params scope cl c') f s.heap.objs.size)) → PE (ncx CX P w K mg base N (lamF q params scope cl c') f A outer s H E) body tb) (hq : tb (startF N vs ws) H Q) :
    codeAny (model P w) A (.call (.ref f) ⟨us, []⟩) (CR CX outer P w H s Q E) s := by
  have lim : s.heap.NoLimit := e0.mod.nolimit.keeps fun b o e => (e0.bs b o e).1
  refine PySem.W.kla_callFunE hr.depth ho rfl S.co S.gen rfl hc ?_
  rw [hb]
  refine wpAny_pure (wpAny_newFunctionEnv S.nocell (fun ⟨n, _⟩ hy => S.par n (List.of_mem_zip hy).1) (fun h₁ hns hsb => ⟨lim.fresh _ hsb, ?_⟩) S.kind)
  show codeAny _ _ (.expr body (envF (lamF q params scope cl c') f s.heap.objs.size)) _ _
  have kp : ∀ b o, s.heap.get? b = some o → h₁.get? b = some o := fun b o e => hsb.extBut b o (Nat.ne_of_lt (Heap.lt_size e)) (Heap.get?_push_of_some _ e)
  have I : Inv (ncx CX P w K mg base N (lamF q params scope cl c') f A outer s H E) [] (startF N vs ws) H { s with heap := h₁, toks := s.toks + (ps.zip us).length } := inv_startN (F := lamF q params scope cl c') S hr.hd e0 hl r C hns kp
  refine PySem.W.kla_codeExpr (wpAny_mono ((hbody (hr.deeper _)).run [] _ _ H Q I hq) (fun u s' hs => ?_) fun e s' hs => hs)
  obtain ⟨v, H', J, rv, q⟩ := hs
  exact ⟨v, H', J.os, J.bare, J.base, J.hok, rv, q⟩
/-- a thing that may be called while E is lent -/
structure Cal (P : Program) (w : World) (K : PySem.W.Frag) (mg : Str → Option Value) (base : Heap) (k : Nat) (f : Addr) (E : Lnd) (cc : Addr) (q : Str) (sp : Sp) : Prop where
  obj : ∃ (od : Option Addr) (fd : FuncData) (sl : Array (Option Value)), E f = some ⟨.type "function", od, .func fd, sl⟩
  run : ∀ (A : Around) (outer : List Env) (s : Shared) (H : Hp) (us : List Value) (vs : List V) (Q : VK), Room k A → Env0 P w K mg base A outer s H → Lent H E → H cc = some (CodeO cc q) → Vals vs us → sp vs (wout H E) (fun v H' => (∀ b o, E b = some o → H' b = none) → Q v (wth H' E)) (fun _ _ _ => False) →
    codeAny (model P w) A (.call (.ref f) ⟨us, []⟩) (CR CX0 outer P w H s Q (fun _ _ _ => False)) s
/-- x(..), where the slot i holds such a thing -/
def tCalF (P : Program) (w : World) (K : PySem.W.Frag) (mg : Str → Option Value) (base : Heap) (k i : Nat) (t : TA) : TE := fun σ H Q => ∃ f E cc q sp, σ[i]? = some (some (.ref f)) ∧ Cal P w K mg base k f E cc q sp ∧ Lent H E ∧
  t σ H fun vs H1 => Lent H1 E ∧ H1 cc = some (CodeO cc q) ∧ sp vs (wout H1 E) (fun v H' => (∀ b o, E b = some o → H' b = none) → Q v (wth H' E)) (fun _ _ _ => False)
theorem fnAt_lent {P : Program} {w : World} {H : Hp} {h : Heap} {f : Addr} {E : Lnd} {od : Option Addr} {fd : FuncData} {sl : Array (Option Value)} (hok : HOk P w H h) (L : Lent H E) (e : E f = some ⟨.type "function", od, .func fd, sl⟩) : PySem.W.FnAt f h := ⟨_, od, _, sl, (hok f _ (L f _ e)).1⟩
theorem pe_calF {X : Cx} {k i : Nat} {x : Str} {t : TA} {e : Expr} {es : List Expr} {p pos : Pos} (hr : Room k X.A) (hN : X.N[i]? = some x) (hv : Vis X.env.scope x) (ha : PA X (e :: es) t)
    (hdb : (x == ("__debug__" : Str)) = false := by decide) (hcd : (x == ("__classdict__" : Str)) = false := by decide)
    (he : starEach (e :: es) X.env = (false, eval e X.env) :: starEach es X.env := by rfl) (hpl : (backTo pos (starEach es X.env)).any (·.1) = false := by rfl) :
    PE X (.Call (.Name x p) (e :: es) [] pos) (tCalF X.prog X.w X.K X.mg X.base k i t) := by
  refine ⟨fun pins s σ H Q I h => ?_⟩
  obtain ⟨f, E, cc, q, sp, hs, C, L, ht⟩ := h
  refine wpAny_Call_Name_kw (thn ((pe_var (pos := p) hN hv hdb hcd).run pins s σ H (fun v H1 => v = .ref f ∧ H1 = H) I ⟨.ref f, hs, rfl, rfl⟩) fun u s1 ⟨v, H1, I1, r1, q1⟩ => ?_)
  obtain ⟨ev, eH⟩ := q1
  subst ev
  rw [eH] at I1
  obtain rfl : u = Value.ref f := r1
  obtain ⟨od, fd, sl, ob⟩ := C.obj
  refine PySem.W.callWith_F (first := []) (fnAt_lent I1.hok L ob) (thn (ha.run pos pins s1 σ H _ I1 ht) fun us s2 ⟨vs, H2, I2, r, h1, h2, q2⟩ => ⟨fnAt_lent I2.hok h1 ob, ?_⟩) he hpl
  show wpAny _ _ (call (.ref f) us) _ _ _
  refine wpAny_call (codeAny_mono (C.run X.A X.stack s2 H2 us vs Q hr I2.env0 h1 h2 r q2) fun r s' hq => ?_)
  cases r with
  | error e => exact (show False from hq).elim
  | ok fl =>
    cases fl with
    | ret u => exact I2.after hq
    | next => exact False.elim hq
    | brk => exact False.elim hq
    | cont => exact False.elim hq
/-- a call to which a lambda and what it captured are lent -/
def tLend (O : Addr → Addr → HO) (q : Str) (js : List Nat) (CAL : Addr → Addr → Lnd → List (Option V) → Prop) (sp : Sp) (t : TA) : TE := fun σ H Q => t σ H fun vs H1 => ∃ f c', H1 f = some (O f c') ∧ H1 c' = some (CodeO c' q) ∧ c' ≠ f ∧
  ∀ E : Lnd, (∀ b u, b ≠ f → H1 b = some u → E b = none) → CAL f c' E (js.map (slotAt σ)) → sp vs (wth H1 E) (fun v H' => Q v (wout H' E)) (fun _ _ _ => False)
theorem pe_lend {X : Cx} {lpos : Pos} {kf k : Nat} {g : Addr} {fd : FuncData} {ps : List Str} {sp : Sp} {x : Str} {e : Expr} {es : List Expr} {p pos : Pos} {t : TA} {NL pl fr : List Str} {js : List Nat} {params : Arguments} {body : Expr} {scope : Scope} {spl : List (Option V) → Sp}
    (htie : (e :: es).getLast? = some (.Lambda params body scope lpos)) (F : FnOk X.prog X.w X.K X.mg X.base CX0 kf g fd ps sp) (hr : Room kf X.A) (hg : Gl X x) (hm : X.mg x = some (.ref g)) (hk : PySem.W.keepIn X.K (.ref g) = true) (hb : Binds X.K fd ps []) (ha : PA X (e :: es) t)
    (S : NScope NL pl fr scope) (hfn : ∀ y, X.fn y = true) (hnd : ndefB X.env.scope scope fr = true) (hjs : js.map (fun j => X.N[j]?) = fr.map some)
    (hbind : ∀ (cl : List (Str × Addr)) (c' : Addr) (pm ctv : Value) (us : List Value), us.length = pl.length → bindArgs (PySem.W.kla_fn "<lambda>" (X.env.qual ++ "<lambda>") params body scope cl pm (.ref c') ctv) ⟨us, []⟩ = pure (pl.zip us))
    (hlen : ∀ ws vs H Q E, spl ws vs H Q E → vs.length = pl.length)
    (hbody : ∀ (f c' : Addr) (cl : List (Str × Addr)) (A : Around) (outer : List Env) (s : Shared) (H : Hp) (vs : List V) (ws : List (Option V)) (Q : VK), Room k (A.deeper (envF (lamF (X.env.qual ++ "<lambda>") params scope cl c') f s.heap.objs.size)) → ws.length = fr.length → spl ws vs H Q (fun _ _ _ => False) →
      ∃ tb, PE (ncx CX0 X.prog X.w X.K X.mg X.base NL (lamF (X.env.qual ++ "<lambda>") params scope cl c') f A outer s H (fun _ _ _ => False)) body tb ∧ tb (startF NL vs ws) H Q)
    (hdb : (x == ("__debug__" : Str)) = false := by decide) (he : starEach (e :: es) X.env = (false, eval e X.env) :: starEach es X.env := by rfl) (hpl : (backTo pos (starEach es X.env)).any (·.1) = false := by rfl) :
    PE X (.Call (.Name x p) (e :: es) [] pos) (tLend (fun f c' => LamO f (X.env.qual ++ "<lambda>") params body scope (cloFrom X.env.cells scope.names []) c') (X.env.qual ++ "<lambda>") js
      (fun f c' E ws => Cal X.prog X.w X.K X.mg X.base (k + 1) f E c' (X.env.qual ++ "<lambda>") (spl ws)) sp t) := by
  refine ⟨fun pins s σ H Q I h => ?_⟩
  refine wpAny_Call_Name_kw (ld_glob I hg hm ?_ hdb)
  refine PySem.W.callWith_K (h₀ := X.base) I.ok.mod.kin hk (thn (ha.run pos pins s σ H _ I h) fun us s1 ⟨vs, H1, I1, r, q⟩ => ⟨I1.kIn, ?_⟩) he hpl
  obtain ⟨f, c', hf, hc, ncf, q⟩ := q
  obtain ⟨pm, ctv, of⟩ := lamO_at I1.hok hf
  have cp : Caps X (cloFrom X.env.cells scope.names []) fr js := Caps.made I1.ok (ndef_free hnd) (ndef_fr hnd) hjs
  have C := cells_of I1 cp
  generalize hcl : cloFrom X.env.cells scope.names [] = cl at *
  obtain ⟨E, hE⟩ : ∃ E : Lnd, E = fun b => if b = f ∨ (cl.any fun y => y.2 == b) = true then s1.heap.get? b else none := ⟨_, rfl⟩
  have inE : ∀ b o, E b = some o → s1.heap.get? b = some o ∧ (b = f ∨ ∃ y ∈ cl, y.2 = b) := fun b o e => by
    rw [hE] at e
    dsimp only at e
    split at e
    · rename_i z
      refine ⟨e, z.imp id fun z => ?_⟩
      obtain ⟨y, hy, ey⟩ := List.any_eq_true.mp z
      exact ⟨y, hy, beq_iff_eq.mp ey⟩
    · cases e
  have Ef : E f = s1.heap.get? f := by rw [hE]; exact if_pos (.inl rfl)
  have Ec : ∀ y c, cl.lookup y = some c → E c = s1.heap.get? c := fun y c e => by rw [hE]; exact if_pos (.inr (List.any_eq_true.mpr ⟨(y, c), PySem.mem_of_lookup e, beq_iff_eq.mpr rfl⟩))
  -- each pair of the closure is one that lookup finds
  have look : ∀ y ∈ cl, X.env.cells.lookup y.1 = some y.2 := fun y hy => by
    rw [← hcl] at hy
    rcases cloFrom_mem hy with hm | ⟨h1, h2⟩
    · cases hm
    · have hfree : ∃ c, X.env.cells.lookup y.1 = some c := (ndef_free hnd (y.1, .free) h1 rfl).elim (fun z => I1.ok.has _ (.inl z)) fun z => I1.ok.has _ (.inr z)
      obtain ⟨c1, hc1⟩ := hfree
      have e2 : y.2 = c1 := by
        rw [h2, hc1] <;> rfl
      rw [e2]; exact hc1
  have cell : ∀ y ∈ cl, H1 y.2 = none ∧ X.base.get? y.2 = none ∧ y.2 ∉ frs X.stack := fun y hy => by
    have e := look y hy
    have cb := I1.ok.cab y.1 y.2 (hfn _) e
    refine ⟨I1.freeC _ _ e, Heap.get?_none_of_le (Nat.le_trans I1.ok.bsz cb), fun z => ?_⟩
    rcases List.mem_cons.mp (I1.stkSub _ z) with z | z
    · exact I1.cne _ _ e z
    · obtain ⟨_, o, ho, _⟩ := I1.ok.funs.mem z
      exact absurd (Nat.lt_of_lt_of_le (Heap.lt_size ho) cb) (Nat.lt_irrefl _)
  have L : Lends H1 s1.heap E := fun b o e => by
    obtain ⟨g, z⟩ := inE b o e
    refine ⟨g, ?_⟩
    rcases z with rfl | ⟨y, hy, rfl⟩
    · exact .inr ⟨_, hf⟩
    · exact .inl (cell y hy).1
  have nb : ∀ b o, E b = some o → X.base.get? b = none := fun b o e => by
    rcases (inE b o e).2 with rfl | ⟨y, hy, rfl⟩
    · cases g : X.base.get? b with
      | none => rfl
      | some ob => have := (I1.bs b ob g).2; rw [hf] at this; cases this
    · exact (cell y hy).2.1
  have nf : ∀ b o, E b = some o → b ∉ frs X.stack := fun b o e => by
    rcases (inE b o e).2 with rfl | ⟨y, hy, rfl⟩
    · intro z
      have := I1.stkFree b z
      rw [hf] at this; cases this
    · exact (cell y hy).2.2
  have CA : Cal X.prog X.w X.K X.mg X.base (k + 1) f E c' (X.env.qual ++ "<lambda>") (spl (js.map (slotAt σ))) := by
    refine ⟨⟨_, _, _, by rw [Ef]; exact of⟩, fun A outer s2 H2 us vs Q hr e0 L2 hc2 r hsp => ?_⟩
    have hl := hlen _ _ _ _ _ hsp
    have g2 : ∀ b o, E b = some o → s2.heap.get? b = some o := fun b o e => (e0.hok b _ (L2 b o e)).1
    have C2 : CellsAt cl fr (js.map (slotAt σ)) s2.heap (wout H2 E) := by
      have kc : ∀ y c, cl.lookup y = some c → ∀ v, s1.heap.IsCell c v → s2.heap.IsCell c v := fun y c e v ⟨o, ho, hd⟩ => ⟨o, g2 c o (by rw [Ec y c e]; exact ho), hd⟩
      refine ⟨C.len, fun y c e => ?_, C.inj, fun i y e => ?_⟩
      · obtain ⟨_, v, z⟩ := C.all y c e
        refine ⟨?_, v, kc y c e v z⟩
        obtain ⟨o, ho, _⟩ := z
        exact wout_in (o := o) (by rw [Ec y c e]; exact ho)
      · obtain ⟨c, hc, hv⟩ := C.has i y e
        refine ⟨c, hc, fun v ev => ?_⟩
        obtain ⟨u, ru, z⟩ := hv v ev
        exact ⟨u, ru, kc y c hc _ z⟩
    have hlu : us.length = pl.length := by rw [← r.length]; exact hl
    have of2 := g2 f _ (Ef.trans of)
    have cc := codeO_at e0.hok hc2
    have nfo : ∀ b o, E b = some o → b ∉ frs outer := fun b o e z => by
      have := e0.frf b z
      rw [L2 b o e] at this; cases this
    have run := lam_run (E := (fun _ _ _ => False)) (CX := CX0) (tb := fun σ' H' Q' => ∃ tb, PE (ncx CX0 X.prog X.w X.K X.mg X.base NL (lamF (X.env.qual ++ "<lambda>") params scope cl c') f A outer s2 (wout H2 E) (fun _ _ _ => False)) body tb ∧ tb σ' H' Q') (Q := fun v H' => (∀ b o, E b = some o → H' b = none) → Q v (wth H' E)) S (hbind cl c' pm ctv us hlu) hr (env0_take e0 L2) of2 cc C2 r hl (fun _ => ⟨fun pins s σ H Q I ⟨tb, h1, h2⟩ => h1.run pins s σ H Q I h2⟩) (hbody f c' cl A outer s2 (wout H2 E) vs _ _ (hr.deeper _) C.len hsp)
    refine codeAny_mono run fun r s' hq => ?_
    cases r with
    | error e => exact hq
    | ok fl =>
      cases fl with
      | ret u => exact ce_again L2 e0.hok nfo hq fun v H' q => q
      | next => exact hq
      | brk => exact hq
      | cont => exact hq
  have q2 := q E (fun b u n e => by
    cases z : E b with
    | none => rfl
    | some o =>
      rcases (inE b o z).2 with z | ⟨y, hy, z⟩
      · exact absurd z n
      · rw [← z, (cell y hy).1] at e; cases e) CA
  have r2 : Vals (vs ++ []) (us ++ []) := r.append .nil
  have hl : (us ++ []).length = ps.length := by rw [← r2.length, List.append_nil]; exact F.len _ _ _ _ q2
  refine wpAny_call (codeAny_mono (F.run X.A X.stack s1 (wth H1 E) ⟨us, []⟩ (us ++ []) (vs ++ []) _ (fun _ _ _ => False) hr (env0_lend I1.env0 L nb nf) (hb s1 us I1.kIn hl) r2 (by rw [List.append_nil]; exact q2)) fun r s' hq => ?_)
  cases r with
  | error e => exact (show False from hq).elim
  | ok fl =>
    cases fl with
    | ret u => exact I1.after (ce_back L hq fun v H' q => q)
    | next => exact False.elim hq
    | brk => exact False.elim hq
    | cont => exact False.elim hq
end Pw
namespace Pw
open PySem PySem.Spec PyProof.Rows L2
mutual
theorem Sn.ind1 {p : List Sn → Prop} (h0 : p []) (h1 : ∀ q r, p q.kids → p r → p (q :: r)) : ∀ q : Sn, p q.kids
  | .text _ _ => h0
  | .input _ _ => h0
  | .box _ _ ks => Sn.indL h0 h1 ks
theorem Sn.indL {p : List Sn → Prop} (h0 : p []) (h1 : ∀ q r, p q.kids → p r → p (q :: r)) : ∀ ns, p ns
  | [] => h0
  | q :: r => h1 q r (Sn.ind1 h0 h1 q) (Sn.indL h0 h1 r)
end
/-! ### the plain tree -/
mutual
def Sn.wo1 (n : Nat) : Sn → Sn
  | .text k s => .text k s
  | .input k v => .input k v
  | .box k t ks => .box k t (Sn.wos n ks)
def Sn.wos (n : Nat) : List Sn → List Sn
  | [] => []
  | q :: r => if q.num = n then Sn.wos n r else q.wo1 n :: Sn.wos n r
end
mutual
def Sn.pt1 (m : Sn) : Sn → Sn
  | .text k s => if k = m.num then m else .text k s
  | .input k v => if k = m.num then m else .input k v
  | .box k t ks => if k = m.num then m else .box k t (Sn.pts m ks)
termination_by structural q => q
def Sn.pts (m : Sn) : List Sn → List Sn
  | [] => []
  | q :: r => Sn.pt1 m q :: Sn.pts m r
termination_by structural ns => ns
end
mutual
def Sn.in1 (p : Nat) (f : List Sn → List Sn) : Sn → Sn
  | .text k s => .text k s
  | .input k v => .input k v
  | .box k t ks => if k = p then .box k t (f ks) else .box k t (Sn.inS p f ks)
def Sn.inS (p : Nat) (f : List Sn → List Sn) : List Sn → List Sn
  | [] => []
  | q :: r => q.in1 p f :: Sn.inS p f r
end
def inKey (p : Key0) (f : List Sn → List Sn) (ns : List Sn) : List Sn := match p with
  | none => f ns
  | some p => Sn.inS p f ns
def insS (m : Sn) (b : Key0) (ks : List Sn) : List Sn := match b with
  | none => ks ++ [m]
  | some y => ks.take ((nums ks).idxOf y) ++ m :: ks.drop ((nums ks).idxOf y)
section
variable {n p : Nat} {m : Sn} {f : List Sn → List Sn} {b : Key0}
theorem wo1_kids (q : Sn) : (q.wo1 n).kids = Sn.wos n q.kids := by cases q <;> rfl
theorem wo1_num (q : Sn) : (q.wo1 n).num = q.num := by cases q <;> rfl
theorem wo1_bare (q : Sn) : (q.wo1 n).bare = q.bare := by cases q <;> rfl
theorem wo1_isB (q : Sn) : (q.wo1 n).isB = q.isB := by cases q <;> rfl
theorem pt1_num (q : Sn) : ((Sn.pt1 m q)).num = q.num := by
  cases q <;> (unfold Sn.pt1; split <;> first | (rename_i e; exact e.symm) | rfl)
theorem pt1_hit {q : Sn} (h : q.num = m.num) : (Sn.pt1 m q) = m := by
  cases q <;> exact if_pos h
theorem pt1_kids {q : Sn} (h : q.num ≠ m.num) : ((Sn.pt1 m q)).kids = Sn.pts m q.kids ∧ ((Sn.pt1 m q)).bare = q.bare ∧ ((Sn.pt1 m q)).isB = q.isB := by
  cases q with
  | text k s => have h : ¬ k = m.num := h; unfold Sn.pt1; rw [if_neg h]; exact ⟨rfl, rfl, rfl⟩
  | input k s => have h : ¬ k = m.num := h; unfold Sn.pt1; rw [if_neg h]; exact ⟨rfl, rfl, rfl⟩
  | box k t ks => have h : ¬ k = m.num := h; unfold Sn.pt1; rw [if_neg h]; exact ⟨rfl, rfl, rfl⟩
theorem in1_num (q : Sn) : (q.in1 p f).num = q.num := by
  cases q <;> (unfold Sn.in1) <;> first | rfl | (split <;> rfl)
theorem in1_bare (q : Sn) : (q.in1 p f).bare = q.bare ∧ (q.in1 p f).isB = q.isB := by
  cases q <;> (unfold Sn.in1) <;> first | exact ⟨rfl, rfl⟩ | (split <;> exact ⟨rfl, rfl⟩)
theorem in1_kids (q : Sn) : (q.in1 p f).kids = if q.isB = true ∧ q.num = p then f q.kids else Sn.inS p f q.kids := by
  cases q with
  | text k s => exact (if_neg fun z => nomatch z.1).symm
  | input k s => exact (if_neg fun z => nomatch z.1).symm
  | box k t ks =>
    show (if k = p then Sn.box k t (f ks) else Sn.box k t (Sn.inS p f ks)).kids = if true = true ∧ k = p then f ks else Sn.inS p f ks
    by_cases h : k = p
    · rw [if_pos h, if_pos ⟨rfl, h⟩]; rfl
    · rw [if_neg h, if_neg fun z => h z.2]; rfl
theorem nums_cons (q : Sn) (r : List Sn) : nums (q :: r) = q.num :: nums r := rfl
theorem nums_app (a b : List Sn) : nums (a ++ b) = nums a ++ nums b := List.map_append
theorem nums_wos : ∀ ns : List Sn, nums (Sn.wos n ns) = (nums ns).filter fun x => decide (x ≠ n)
  | [] => rfl
  | q :: r => by
    unfold Sn.wos
    rw [nums_cons]
    by_cases h : q.num = n
    · rw [if_pos h, List.filter_cons_of_neg (by simp [h]), nums_wos r]
    · rw [if_neg h, List.filter_cons_of_pos (by simp [h]), nums_cons, wo1_num, nums_wos r]
theorem erase_filt {l : List Nat} (nd : l.Nodup) : l.erase n = l.filter fun x => decide (x ≠ n) := by
  rw [nd.erase_eq_filter]
  refine congrArg (fun g => l.filter g) (funext fun x => ?_)
  by_cases h : x = n
  · subst h; simp
  · simp [h]
theorem nums_pts : ∀ ns : List Sn, nums (Sn.pts m ns) = nums ns
  | [] => rfl
  | q :: r => by
    unfold Sn.pts
    rw [nums_cons, nums_cons, pt1_num, nums_pts r]
theorem nums_inS : ∀ ns : List Sn, nums (Sn.inS p f ns) = nums ns
  | [] => rfl
  | q :: r => by
    unfold Sn.inS
    rw [nums_cons, nums_cons, in1_num, nums_inS r]
theorem nums_insS (ks : List Sn) : nums (insS m b ks) = insR (nums ks) m.num b := by
  cases b with
  | none => exact nums_app ks [m]
  | some y =>
    show nums (_ ++ m :: _) = _
    rw [nums_app, nums_cons]
    unfold nums insR
    rw [List.map_take, List.map_drop]
theorem mem_cons_all {x q : Sn} {r : List Sn} : x ∈ Sn.all (q :: r) ↔ x = q ∨ x ∈ Sn.all q.kids ∨ x ∈ Sn.all r := by
  rw [Sn.all_cons, List.mem_append, List.mem_cons, or_assoc]
theorem nums_all_cons (q : Sn) (r : List Sn) : nums (Sn.all (q :: r)) = q.num :: (nums (Sn.all q.kids) ++ nums (Sn.all r)) := by
  rw [Sn.all_cons, List.cons_append, nums_cons, nums_app]
theorem mem_wos (n : Nat) : ∀ (ns : List Sn) (x : Sn), x ∈ Sn.all (Sn.wos n ns) → ∃ q ∈ Sn.all ns, q.num ≠ n ∧ x = q.wo1 n := by
  refine Sn.indL (fun x h => nomatch h) fun q r hk hr x h => ?_
  unfold Sn.wos at h
  by_cases e : q.num = n
  · rw [if_pos e] at h
    obtain ⟨y, a, b⟩ := hr x h
    exact ⟨y, mem_cons_all.mpr (.inr (.inr a)), b⟩
  · rw [if_neg e] at h
    rcases mem_cons_all.mp h with h | h | h
    · exact ⟨q, mem_cons_all.mpr (.inl rfl), e, h⟩
    · rw [wo1_kids] at h
      obtain ⟨y, a, b⟩ := hk x h
      exact ⟨y, mem_cons_all.mpr (.inr (.inl a)), b⟩
    · obtain ⟨y, a, b⟩ := hr x h
      exact ⟨y, mem_cons_all.mpr (.inr (.inr a)), b⟩
theorem sub_wos (n : Nat) : ∀ ns : List Sn, (nums (Sn.all (Sn.wos n ns))).Sublist (nums (Sn.all ns)) := by
  refine Sn.indL (.refl _) fun q r hk hr => ?_
  unfold Sn.wos
  rw [nums_all_cons]
  by_cases e : q.num = n
  · rw [if_pos e]
    exact ((hr.trans (List.sublist_append_right _ _))).cons _
  · rw [if_neg e, nums_all_cons, wo1_num, wo1_kids]
    exact (hk.append hr).cons₂ _
theorem mem_pts (hm : m.kids = []) : ∀ (ns : List Sn) (x : Sn), x ∈ Sn.all (Sn.pts m ns) → ∃ q ∈ Sn.all ns, x = (Sn.pt1 m q) := by
  refine Sn.indL (fun x h => nomatch h) fun q r hk hr x h => ?_
  unfold Sn.pts at h
  rcases mem_cons_all.mp h with h | h | h
  · exact ⟨q, mem_cons_all.mpr (.inl rfl), h⟩
  · by_cases e : q.num = m.num
    · rw [pt1_hit e, hm] at h
      cases h
    · rw [(pt1_kids e).1] at h
      obtain ⟨y, a, b⟩ := hk x h
      exact ⟨y, mem_cons_all.mpr (.inr (.inl a)), b⟩
  · obtain ⟨y, a, b⟩ := hr x h
    exact ⟨y, mem_cons_all.mpr (.inr (.inr a)), b⟩
theorem sub_pts (hm : m.kids = []) : ∀ ns : List Sn, (nums (Sn.all (Sn.pts m ns))).Sublist (nums (Sn.all ns)) := by
  refine Sn.indL (.refl _) fun q r hk hr => ?_
  unfold Sn.pts
  rw [nums_all_cons, nums_all_cons, pt1_num]
  refine .cons₂ _ (.append ?_ hr)
  by_cases e : q.num = m.num
  · rw [pt1_hit e, hm]
    exact List.nil_sublist _
  · rw [(pt1_kids e).1]
    exact hk
theorem mem_inS (p : Nat) (f : List Sn → List Sn) : ∀ (ns : List Sn) (x : Sn), x ∈ Sn.all (Sn.inS p f ns) → (∃ q ∈ Sn.all ns, q.isB = true ∧ q.num = p ∧ x ∈ Sn.all (f q.kids)) ∨ ∃ q ∈ Sn.all ns, x = q.in1 p f := by
  refine Sn.indL (fun x h => nomatch h) fun q r hk hr x h => ?_
  unfold Sn.inS at h
  rcases mem_cons_all.mp h with h | h | h
  · exact .inr ⟨q, mem_cons_all.mpr (.inl rfl), h⟩
  · rw [in1_kids] at h
    by_cases e : q.isB = true ∧ q.num = p
    · rw [if_pos e] at h
      exact .inl ⟨q, mem_cons_all.mpr (.inl rfl), e.1, e.2, h⟩
    · rw [if_neg e] at h
      rcases hk x h with ⟨y, a, b⟩ | ⟨y, a, b⟩
      · exact .inl ⟨y, mem_cons_all.mpr (.inr (.inl a)), b⟩
      · exact .inr ⟨y, mem_cons_all.mpr (.inr (.inl a)), b⟩
  · rcases hr x h with ⟨y, a, b⟩ | ⟨y, a, b⟩
    · exact .inl ⟨y, mem_cons_all.mpr (.inr (.inr a)), b⟩
    · exact .inr ⟨y, mem_cons_all.mpr (.inr (.inr a)), b⟩
theorem inS_none (p : Nat) (f : List Sn → List Sn) : ∀ ns : List Sn, (∀ q ∈ Sn.all ns, ¬(q.isB = true ∧ q.num = p)) → Sn.inS p f ns = ns := by
  refine Sn.indL (fun _ => rfl) fun q r hk hr h => ?_
  have h1 := h q (mem_cons_all.mpr (.inl rfl))
  have e1 := hk fun y hy => h y (mem_cons_all.mpr (.inr (.inl hy)))
  have e2 := hr fun y hy => h y (mem_cons_all.mpr (.inr (.inr hy)))
  unfold Sn.inS
  rw [e2]
  congr 1
  cases q with
  | text k s => rfl
  | input k s => rfl
  | box k t ks =>
    show (if k = p then Sn.box k t (f ks) else Sn.box k t (Sn.inS p f ks)) = _
    rw [if_neg (show ¬ k = p from fun z => h1 ⟨rfl, z⟩), show Sn.inS p f ks = ks from e1]
theorem all_insS (m : Sn) (b : Key0) (ks : List Sn) : (Sn.all (insS m b ks)).Perm (Sn.all [m] ++ Sn.all ks) := by
  cases b with
  | none =>
    show (Sn.all (ks ++ [m])).Perm _
    rw [Sn.all_app]
    exact List.perm_append_comm
  | some y =>
    show (Sn.all (_ ++ m :: _)).Perm _
    rw [Sn.all_app, show m :: ks.drop ((nums ks).idxOf y) = [m] ++ ks.drop ((nums ks).idxOf y) from rfl, Sn.all_app]
    have e : Sn.all ks = Sn.all (ks.take ((nums ks).idxOf y)) ++ Sn.all (ks.drop ((nums ks).idxOf y)) := by rw [← Sn.all_app, List.take_append_drop]
    rw [e, ← List.append_assoc, ← List.append_assoc]
    exact List.Perm.append_right _ List.perm_append_comm
theorem inS_perm (p : Nat) (m : Sn) (b : Key0) : ∀ ns : List Sn, (nums (Sn.all ns)).Nodup → (∃ q ∈ Sn.all ns, q.isB = true ∧ q.num = p) → (nums (Sn.all (Sn.inS p (insS m b) ns))).Perm (nums (Sn.all [m]) ++ nums (Sn.all ns)) := by
  refine Sn.indL (fun _ h => by obtain ⟨q, h, _⟩ := h; cases h) fun q r hk hr nd h => ?_
  rw [nums_all_cons] at nd
  obtain ⟨n1, n2⟩ := List.nodup_cons.mp nd
  obtain ⟨n3, n4, n5⟩ := List.nodup_append.mp n2
  unfold Sn.inS
  rw [nums_all_cons (q.in1 p _), nums_all_cons q r, in1_num, in1_kids]
  have no : ∀ (x : Nat) (l : List Sn), x ∉ nums (Sn.all l) → ∀ y ∈ Sn.all l, ¬(y.isB = true ∧ y.num = x) := fun x l h y hy e => h (by rw [← e.2]; exact List.mem_map.mpr ⟨y, hy, rfl⟩)
  by_cases e : q.isB = true ∧ q.num = p
  · rw [if_pos e]
    have e2 : p ∉ nums (Sn.all r) := fun z => n1 (by rw [e.2]; exact List.mem_append_right _ z)
    rw [inS_none p _ r (no p r e2)]
    have k1 : (nums (Sn.all (insS m b q.kids))).Perm (nums (Sn.all [m]) ++ nums (Sn.all q.kids)) := by
      have := (all_insS m b q.kids).map Sn.num
      rw [List.map_append] at this
      exact this
    have k2 : (q.num :: (nums (Sn.all (insS m b q.kids)) ++ nums (Sn.all r))).Perm (q.num :: (nums (Sn.all [m]) ++ nums (Sn.all q.kids) ++ nums (Sn.all r))) := (k1.append_right _).cons _
    refine k2.trans ?_
    rw [List.append_assoc]
    exact List.perm_middle.symm
  · rw [if_neg e]
    obtain ⟨y, hy, z1, z2⟩ := h
    rcases mem_cons_all.mp hy with hy | hy | hy
    · exact absurd (by rw [← hy]; exact ⟨z1, z2⟩) e
    · have py : p ∈ nums (Sn.all q.kids) := by rw [← z2]; exact List.mem_map.mpr ⟨y, hy, rfl⟩
      rw [inS_none p _ r (no p r fun z => n5 p py p z rfl)]
      have k1 := hk n3 ⟨y, hy, z1, z2⟩
      refine ((k1.append_right (nums (Sn.all r))).cons q.num).trans ?_
      rw [List.append_assoc]
      exact List.perm_middle.symm
    · have py : p ∈ nums (Sn.all r) := by rw [← z2]; exact List.mem_map.mpr ⟨y, hy, rfl⟩
      rw [inS_none p _ q.kids (no p q.kids fun z => n5 p z p py rfl)]
      have k1 := hr n4 ⟨y, hy, z1, z2⟩
      refine ((k1.append_left (nums (Sn.all q.kids))).cons q.num).trans ?_
      have k2 : (nums (Sn.all q.kids) ++ (nums (Sn.all [m]) ++ nums (Sn.all r))).Perm (nums (Sn.all [m]) ++ (nums (Sn.all q.kids) ++ nums (Sn.all r))) := by
        rw [← List.append_assoc, ← List.append_assoc]
        exact List.perm_append_comm.append_right _
      exact (k2.cons _).trans List.perm_middle.symm
theorem wos_none (n : Nat) : ∀ ns : List Sn, n ∉ nums (Sn.all ns) → Sn.wos n ns = ns := by
  refine Sn.indL (fun _ => rfl) fun q r hk hr h => ?_
  rw [nums_all_cons] at h
  have h1 : q.num ≠ n := fun z => h (by rw [z]; exact List.mem_cons_self)
  have e1 := hk fun z => h (List.mem_cons_of_mem _ (List.mem_append_left _ z))
  have e2 := hr fun z => h (List.mem_cons_of_mem _ (List.mem_append_right _ z))
  unfold Sn.wos
  rw [if_neg h1, e2]
  congr 1
  cases q with
  | text k s => rfl
  | input k s => rfl
  | box k t ks =>
    show Sn.box k t (Sn.wos n ks) = _
    rw [show Sn.wos n ks = ks from e1]
theorem wos_perm (m : Sn) : ∀ ns : List Sn, (nums (Sn.all ns)).Nodup → m ∈ Sn.all ns → (nums (Sn.all ns)).Perm (nums (Sn.all [m]) ++ nums (Sn.all (Sn.wos m.num ns))) := by
  refine Sn.indL (fun _ h => nomatch h) fun q r hk hr nd h => ?_
  have nd0 := nd
  rw [nums_all_cons] at nd
  obtain ⟨n1, n2⟩ := List.nodup_cons.mp nd
  obtain ⟨n3, n4, n5⟩ := List.nodup_append.mp n2
  have e1 : nums (Sn.all [m]) = m.num :: nums (Sn.all m.kids) := by rw [nums_all_cons]; simp [Sn.all, Sn.lst, nums]
  unfold Sn.wos
  by_cases e : q.num = m.num
  · rw [if_pos e]
    have : q = m := num_inj nd0 (mem_cons_all.mpr (.inl rfl)) h e
    subst this
    rw [wos_none _ r fun z => n1 (List.mem_append_right _ z), e1, nums_all_cons]
    exact .refl _
  · rw [if_neg e, nums_all_cons q r, nums_all_cons (q.wo1 m.num), wo1_num, wo1_kids]
    rcases mem_cons_all.mp h with h | h | h
    · exact absurd (by rw [h]) e
    · have hm : m.num ∈ nums (Sn.all q.kids) := List.mem_map.mpr ⟨m, h, rfl⟩
      rw [wos_none _ r fun z => n5 _ hm _ z rfl]
      refine (((hk n3 h).append_right (nums (Sn.all r))).cons q.num).trans ?_
      rw [List.append_assoc]
      exact List.perm_middle.symm
    · have hm : m.num ∈ nums (Sn.all r) := List.mem_map.mpr ⟨m, h, rfl⟩
      rw [wos_none _ q.kids fun z => n5 _ z _ hm rfl]
      refine (((hr n4 h).append_left (nums (Sn.all q.kids))).cons q.num).trans ?_
      have k2 : (nums (Sn.all q.kids) ++ (nums (Sn.all [m]) ++ nums (Sn.all (Sn.wos m.num r)))).Perm (nums (Sn.all [m]) ++ (nums (Sn.all q.kids) ++ nums (Sn.all (Sn.wos m.num r)))) := by
        rw [← List.append_assoc, ← List.append_assoc]
        exact List.perm_append_comm.append_right _
      exact (k2.cons _).trans List.perm_middle.symm
theorem hts_le : ∀ ns : List Sn, Sn.hts ns ≤ (Sn.all ns).length := by
  refine Sn.indL (Nat.le_refl _) fun q r hk hr => ?_
  rw [Sn.all_cons, List.cons_append, List.length_cons, List.length_append]
  have e : Sn.hts (q :: r) = max q.ht (Sn.hts r) := rfl
  have e2 : q.ht ≤ Sn.hts q.kids + 1 := by
    cases q with
    | text _ _ => exact Nat.zero_le _
    | input _ _ => exact Nat.zero_le _
    | box k t ks => exact Nat.le_refl _
  omega
end
/-! ### what the growing tree makes of it -/
section
variable {g : Gw} {tree : List Sn}
/-- the tree that has grown -/
structure Sim (g : Gw) (tree : List Sn) : Prop where
  gr : g.Grows none tree
  wf : g.Wf
  nd : (nums (Sn.all tree)).Nodup
theorem Sim.node (h : Sim g tree) {q : Sn} (hq : q ∈ Sn.all tree) : g.Node q := h.gr.2 q hq
/-- no node is among those in it -/
theorem own_not {ns : List Sn} (nd : (nums (Sn.all ns)).Nodup) {q : Sn} (hq : q ∈ Sn.all ns) : q.num ∉ nums (Sn.all q.kids) := by
  refine Sn.indL (p := fun ns => (nums (Sn.all ns)).Nodup → q ∈ Sn.all ns → q.num ∉ nums (Sn.all q.kids)) (fun _ h => nomatch h) (fun a r hk hr nd h => ?_) ns nd hq
  rw [nums_all_cons] at nd
  obtain ⟨n1, n2⟩ := List.nodup_cons.mp nd
  obtain ⟨n3, n4, n5⟩ := List.nodup_append.mp n2
  rcases mem_cons_all.mp h with h | h | h
  · subst h; exact fun z => n1 (List.mem_append_left _ z)
  · exact hk n3 h
  · exact hr n4 h
theorem kids_nd {ns : List Sn} (nd : (nums (Sn.all ns)).Nodup) {q : Sn} (hq : q ∈ Sn.all ns) : (nums (Sn.all q.kids)).Nodup := by
  refine Sn.indL (p := fun ns => (nums (Sn.all ns)).Nodup → q ∈ Sn.all ns → (nums (Sn.all q.kids)).Nodup) (fun _ h => nomatch h) (fun a r hk hr nd h => ?_) ns nd hq
  rw [nums_all_cons] at nd
  obtain ⟨n1, n2⟩ := List.nodup_cons.mp nd
  obtain ⟨n3, n4, n5⟩ := List.nodup_append.mp n2
  rcases mem_cons_all.mp h with h | h | h
  · subst h; exact n3
  · exact hk n3 h
  · exact hr n4 h
theorem top_sub : ∀ ns : List Sn, (nums ns).Sublist (nums (Sn.all ns))
  | [] => .refl _
  | q :: r => by
    rw [nums_all_cons, nums_cons]
    exact .cons₂ _ ((top_sub r).trans (List.sublist_append_right _ _))
theorem Sim.take (h : Sim g tree) (n : Nat) : Sim (g.leave n) (Sn.wos n tree) := by
  refine ⟨⟨?_, fun x hx => ?_⟩, h.wf.leave n, (sub_wos n tree).nodup h.nd⟩
  · rw [h.wf.leave_rows, h.gr.1, nums_wos]
    exact congrArg some (erase_filt ((top_sub tree).nodup h.nd))
  · obtain ⟨q, hq, hn, rfl⟩ := mem_wos n tree x hx
    obtain ⟨a, b⟩ := h.node hq
    refine ⟨?_, ?_⟩
    · rw [wo1_num, wo1_bare, Gw.leave_bare]; exact a
    · rw [wo1_num, wo1_isB, wo1_kids, h.wf.leave_rows, b]
      by_cases e : q.isB = true
      · rw [if_pos e, if_pos e, nums_wos]
        exact congrArg some (erase_filt ((top_sub q.kids).nodup (kids_nd h.nd hq)))
      · rw [if_neg e, if_neg e]; rfl
/-- a leaf is another -/
theorem Sim.leaf (h : Sim g tree) (m : Sn) (hb : m.isB = false) (hl : ∀ q ∈ Sn.all tree, q.num = m.num → q.isB = false) : Sim { g with bare := setF g.bare (some m.num) (some m) } (Sn.pts m tree) := by
  have hk : m.kids = [] := by cases m <;> first | rfl | cases hb
  have hbare : m.bare = m := by cases m <;> first | rfl | cases hb
  refine ⟨⟨?_, fun x hx => ?_⟩, ⟨h.wf.ar, h.wf.nd⟩, (sub_pts hk tree).nodup h.nd⟩
  · show g.rows none = _
    rw [nums_pts]; exact h.gr.1
  · obtain ⟨q, hq, rfl⟩ := mem_pts hk tree x hx
    obtain ⟨a, b⟩ := h.node hq
    by_cases e : q.num = m.num
    · rw [pt1_hit e]
      refine ⟨?_, ?_⟩
      · show setF g.bare (some m.num) (some m) (some m.num) = _
        rw [setF_same, hbare]
      · show g.rows (some m.num) = _
        rw [← e, b, hl q hq e, hb]; rfl
    · obtain ⟨k1, k2, k3⟩ := pt1_kids e
      refine ⟨?_, ?_⟩
      · show setF g.bare (some m.num) (some m) (some ((Sn.pt1 m q)).num) = _
        rw [pt1_num, setF_ne (fun z => e (Option.some.inj z)), k2]; exact a
      · show g.rows (some ((Sn.pt1 m q)).num) = _
        rw [pt1_num, k1, k3, nums_pts]; exact b
/-- what is not in the tree is made -/
theorem Sim.make (h : Sim g tree) (m : Sn) (hm : m.kids = []) (hn : m.num ∉ nums (Sn.all tree)) (hr : g.rows (some m.num) = none) : Sim (g.step (.make m)) tree ∧ (g.step (.make m)).Node m ∧ (g.step (.make m)).around = g.around := by
  have hbare : m.bare = m := by cases m <;> first | rfl | (cases hm; rfl)
  have ro : ∀ k, k ≠ some m.num → (g.step (.make m)).rows k = g.rows k := fun k e => by
    show (if m.isB then setF g.rows (some m.num) (some []) else g.rows) k = _
    by_cases c : m.isB = true
    · rw [if_pos c, setF_ne e]
    · rw [if_neg c]
  have rm : (g.step (.make m)).rows (some m.num) = if m.isB then some (nums m.kids) else none := by
    show (if m.isB then setF g.rows (some m.num) (some []) else g.rows) (some m.num) = _
    by_cases c : m.isB = true
    · rw [if_pos c, if_pos c, setF_same, hm]; rfl
    · rw [if_neg c, if_neg c, hr]
  refine ⟨⟨⟨?_, fun q hq => ?_⟩, ⟨fun n p => ?_, fun p l e => ?_⟩, h.nd⟩, ⟨?_, rm⟩, rfl⟩
  · rw [ro none fun z => nomatch z]; exact h.gr.1
  · obtain ⟨a, b⟩ := h.node hq
    have ne : q.num ≠ m.num := fun z => hn (by rw [← z]; exact List.mem_map.mpr ⟨q, hq, rfl⟩)
    refine ⟨?_, ?_⟩
    · show setF g.bare (some m.num) (some m) (some q.num) = _
      rw [setF_ne fun z => ne (Option.some.inj z)]; exact a
    · rw [ro _ fun z => ne (Option.some.inj z)]; exact b
  · show g.around (some n) = some p ↔ _
    by_cases c : p = some m.num
    · subst c
      rw [rm, h.wf.ar n (some m.num), hr]
      constructor
      · rintro ⟨l, e, _⟩; cases e
      · rintro ⟨l, e, hl⟩
        split at e
        · cases e; rw [hm] at hl; cases hl
        · cases e
    · rw [ro p c]; exact h.wf.ar n p
  · by_cases c : p = some m.num
    · subst c
      rw [rm] at e
      split at e
      · cases e; rw [hm]; exact .nil
      · cases e
    · rw [ro p c] at e; exact h.wf.nd p l e
  · show setF g.bare (some m.num) (some m) (some m.num) = _
    rw [setF_same, hbare]
/-- a node is put -/
theorem Sim.put (h : Sim g tree) (m : Sn) (p b : Key0) (ha : g.around (some m.num) = none) (ho : g.PutOk p b) (hm : ∀ q ∈ Sn.all [m], g.Node q) (nm : (nums (Sn.all [m])).Nodup) (dj : ∀ x ∈ nums (Sn.all [m]), x ∉ nums (Sn.all tree)) (hp : ∀ x, p = some x → x ∉ nums (Sn.all [m])) :
    Sim (g.put m.num p b) (inKey p (insS m b) tree) := by
  obtain ⟨l, hl, hb⟩ := ho
  have ne : ∀ {q : Sn}, some q.num ≠ p → (g.Node q → (g.put m.num p b).Node q) := fun {q} e ⟨a, b⟩ => ⟨a, by rw [Gw.put_rows, if_neg e]; exact b⟩
  have inM : ∀ q ∈ Sn.all [m], (g.put m.num p b).Node q := fun q hq => ne (fun z => hp q.num z.symm (List.mem_map.mpr ⟨q, hq, rfl⟩)) (hm q hq)
  have wf := h.wf.put (n := m.num) (b := b) ha ⟨l, hl⟩
  have two : ∀ {l1 l2 : List Nat}, l1.Perm (nums (Sn.all [m]) ++ nums (Sn.all tree)) → l1.Nodup := fun pe => pe.nodup_iff.mpr (List.nodup_append.mpr ⟨nm, h.nd, fun x hx y hy e => dj x hx (by rw [e]; exact hy)⟩)
  cases p with
  | none =>
    refine ⟨⟨?_, fun x hx => ?_⟩, wf, ?_⟩
    · rw [Gw.put_rows, if_pos rfl, h.gr.1]
      show some (insR (nums tree) m.num b) = some (nums (insS m b tree))
      rw [nums_insS]
    · have hx : x ∈ Sn.all (insS m b tree) := hx
      rcases List.mem_append.mp ((all_insS m b tree).mem_iff.mp hx) with hx | hx
      · exact inM x hx
      · exact ne (fun z => nomatch z) (h.node hx)
    · refine two (l2 := []) ?_
      have := (all_insS m b tree).map Sn.num
      rw [List.map_append] at this
      exact this
  | some p =>
    refine ⟨⟨?_, fun x hx => ?_⟩, wf, ?_⟩
    · rw [Gw.put_rows, if_neg fun z => nomatch z]
      show _ = some (nums (Sn.inS p _ tree))
      rw [nums_inS]
      exact h.gr.1
    · have hx : x ∈ Sn.all (Sn.inS p (insS m b) tree) := hx
      rcases mem_inS p _ tree x hx with ⟨q, hq, e1, e2, hx⟩ | ⟨q, hq, rfl⟩
      · rcases List.mem_append.mp ((all_insS m b q.kids).mem_iff.mp hx) with hx | hx
        · exact inM x hx
        · refine ne (fun z => own_not h.nd hq ?_) (h.node (Sn.all_all hq hx))
          rw [e2, ← Option.some.inj z]
          exact List.mem_map.mpr ⟨x, hx, rfl⟩
      · obtain ⟨a, b'⟩ := h.node hq
        obtain ⟨k1, k2⟩ := in1_bare (p := p) (f := insS m b) q
        refine ⟨by rw [in1_num, k1]; exact a, ?_⟩
        rw [in1_num, k2, in1_kids, Gw.put_rows]
        by_cases e : some q.num = some p
        · have e' : q.num = p := Option.some.inj e
          rw [if_pos e, ← e, b']
          by_cases c : q.isB = true
          · rw [if_pos c, if_pos c, if_pos ⟨c, e'⟩, nums_insS]; rfl
          · rw [if_neg c, if_neg c]; rfl
        · rw [if_neg e, b', if_neg (show ¬ (q.isB = true ∧ q.num = p) from fun z => e (congrArg some z.2)), nums_inS]
    · show (nums (Sn.all (Sn.inS p (insS m b) tree))).Nodup
      by_cases c : ∃ q ∈ Sn.all tree, q.isB = true ∧ q.num = p
      · exact two (l2 := []) (inS_perm p m b tree h.nd c)
      · rw [inS_none p _ tree fun q hq z => c ⟨q, hq, z⟩]; exact h.nd
end
end Pw
namespace Pw
open PySem PySem.Spec PyProof.Rows L2
theorem wos_cons (n : Nat) (q : Sn) (r : List Sn) : Sn.wos n (q :: r) = if q.num = n then Sn.wos n r else q.wo1 n :: Sn.wos n r := rfl
theorem pts_cons (m q : Sn) (r : List Sn) : Sn.pts m (q :: r) = Sn.pt1 m q :: Sn.pts m r := rfl
theorem inS_cons (p : Nat) (f : List Sn → List Sn) (q : Sn) (r : List Sn) : Sn.inS p f (q :: r) = q.in1 p f :: Sn.inS p f r := rfl
theorem wos_app (n : Nat) : ∀ a b : List Sn, Sn.wos n (a ++ b) = Sn.wos n a ++ Sn.wos n b
  | [], b => rfl
  | q :: r, b => by
    rw [List.cons_append, wos_cons, wos_cons, wos_app n r b]
    split <;> rfl
theorem pts_app (m : Sn) : ∀ a b : List Sn, Sn.pts m (a ++ b) = Sn.pts m a ++ Sn.pts m b
  | [], b => rfl
  | q :: r, b => by
    rw [List.cons_append, pts_cons, pts_cons, pts_app m r b]
    rfl
theorem inS_app (p : Nat) (f : List Sn → List Sn) : ∀ a b : List Sn, Sn.inS p f (a ++ b) = Sn.inS p f a ++ Sn.inS p f b
  | [], b => rfl
  | q :: r, b => by
    rw [List.cons_append, inS_cons, inS_cons, inS_app p f r b]
    rfl
theorem wos_len (n : Nat) (ns : List Sn) : (Sn.wos n ns).length ≤ ns.length := by
  have := congrArg List.length (nums_wos (n := n) ns)
  unfold nums at this
  rw [List.length_map] at this
  rw [this]
  have := List.length_filter_le (fun x => decide (x ≠ n)) (ns.map Sn.num)
  rw [List.length_map] at this
  exact this
theorem pts_len (m : Sn) (ns : List Sn) : (Sn.pts m ns).length = ns.length := by
  have := congrArg List.length (nums_pts (m := m) ns)
  unfold nums at this
  rwa [List.length_map, List.length_map] at this
theorem inS_len (p : Nat) (f : List Sn → List Sn) (ns : List Sn) : (Sn.inS p f ns).length = ns.length := by
  have := congrArg List.length (nums_inS (p := p) (f := f) ns)
  unfold nums at this
  rwa [List.length_map, List.length_map] at this
/-! ### promises -/
def spWo (n : Nat) : Sp := fun vs H Q _ => ∃ (ns : List Sn) (v : V) (k : Nat), vs = [v, .int (k : Int)] ∧ IsT H (.tup (Sn.toTs ns)) v ∧ Sn.hts ns < n ∧ (Sn.all ns).length ≤ 1000 ∧
  ∀ r H', IsT H' (.tup (Sn.toTs (Sn.wos k ns))) r → Oth [] H H' → Q r H'
def spVa (n : Nat) : Sp := fun vs H Q _ => ∃ (ns : List Sn) (v : V) (k : Nat) (x : Int), vs = [v, .int (k : Int), .int x] ∧ IsT H (.tup (Sn.toTs ns)) v ∧ Sn.hts ns < n ∧ (Sn.all ns).length ≤ 1000 ∧ (∀ q ∈ Sn.all ns, q.num = k → ∃ y, q = .input k y) ∧
  ∀ r H', IsT H' (.tup (Sn.toTs (Sn.pts (.input k x) ns))) r → Oth [] H H' → Q r H'
def spTx (n : Nat) : Sp := fun vs H Q _ => ∃ (ns : List Sn) (v : V) (k : Nat) (x : Str), vs = [v, .int (k : Int), .str x] ∧ IsT H (.tup (Sn.toTs ns)) v ∧ Sn.hts ns < n ∧ (Sn.all ns).length ≤ 1000 ∧
  ∀ r H', IsT H' (.tup (Sn.toTs (Sn.pts (.text k x) ns))) r → Oth [] H H' → Q r H'
theorem box_up {H H2 : Hp} {S : List Addr} {b c d u : Addr} {v1 v2 v3 r : V} {k : Nat} {t : Str} {ks : List Sn} (o : Oth S H H2) (eb : H b = some (.tup [.str "box", v1, v2, v3])) (p1 : IsT H (.int (k : Int)) v1) (p2 : IsT H (.str t) v2) (tr : IsT H2 (.tup (Sn.toTs ks)) r)
    (e : H2 d = some (.tup (([V.str "box", v1, v2, v3].take 3) ++ [r]))) : IsT H2 (Sn.box k t ks).toT (.ref d) := .mk4 e (.str _) (p1.oth o) (p2.oth o) tr
theorem sl_dropL {K : PySem.W.Frag} {H : Hp} {a : Addr} {xs : List V} {n : Nat} {Q : VK} (ha : H a = some (.lst xs)) (hn : n ≤ xs.length) (q : ∀ (c : Addr) (H' : Hp), H c = none → Oth [] H H' → H' c = some (.lst (xs.drop n)) → Q (.ref c) H') : rSlL K (.ref a) (some (n : Int)) none H Q := by
  refine ⟨a, xs, rfl, SqL.of ha, fun p hp => q p _ hp (Oth.new hp) ?_⟩
  rw [upd_same]
  unfold cutV
  rw [HT.sIx_none, HT.sIx_nat, Nat.min_eq_left hn, List.take_of_length_le (by rw [List.length_drop]; exact Nat.le_refl _)]
def PutAt (m : Sn) (b : Key0) (ks : List Sn) : Prop := ks.length ≤ 1000 ∧ ∀ y, b = some y → y ∈ nums ks
def spBe : Sp := fun vs H Q _ => ∃ (ks : List Sn) (us : List V) (a : Addr) (m : Sn) (v : V) (b : Key0), vs = [.ref a, v, k0V b] ∧ H a = some (.lst us) ∧ Paired (IsT H) (ks.map Sn.toT) us ∧ IsT H m.toT v ∧ PutAt m b ks ∧
  ∀ r H', IsT H' (.tup (Sn.toTs (insS m b ks))) r → Oth [] H H' → Q r H'
theorem pdrop {H : Hp} : ∀ {ts : List T} {xs : List V}, Paired (IsT H) ts xs → ∀ n, Paired (IsT H) (ts.drop n) (xs.drop n)
  | _, _, .nil, n => by rw [List.drop_nil, List.drop_nil]; exact .nil
  | _, _, .cons h t, 0 => .cons h t
  | _, _, .cons h t, n + 1 => pdrop t n
theorem IsT.tups {H H' : Hp} {t : T} {v : V} (h : IsT H t v) (o : ∀ a xs, H a = some (.tup xs) → H' a = some (.tup xs)) : IsT H' t v := by
  induction h with
  | non => exact .non
  | bl b => exact .bl b
  | int i => exact .int i
  | str s => exact .str s
  | tup e l _ ih => exact .tup (o _ _ e) l ih
theorem ptups {H H' : Hp} (o : ∀ a xs, H a = some (.tup xs) → H' a = some (.tup xs)) {ts : List T} {xs : List V} (p : Paired (IsT H) ts xs) : Paired (IsT H') ts xs := pimp p fun _ _ h => h.tups o
theorem lent_tups {H : Hp} {E : Lnd} (L : Lent H E) : ∀ a xs, H a = some (.tup xs) → wout H E a = some (.tup xs) := fun a xs e => by
  cases q : E a with
  | none => rw [wout_not q]; exact e
  | some o => have := L a o q; rw [e] at this; cases this
theorem lent_oth {H H' : Hp} {E : Lnd} (L : Lent H E) (o : Oth [] (wout H E) H') : Oth [] H (wth H' E) := by
  refine ⟨fun a ob _ e => ?_, fun a xs e => ?_⟩
  · cases q : E a with
    | none => rw [wth_not q]; exact o.keep a ob (by simp) (by rw [wout_not q]; exact e)
    | some oc => rw [wth_in q, ← L a oc q]; exact e
  · have e2 := lent_tups L a xs e
    rw [wth_not (wout_some e2).1]; exact o.tup a xs e2
theorem back_tups {H : Hp} {E : Lnd} (n : ∀ b o, E b = some o → H b = none) : ∀ a xs, H a = some (.tup xs) → wth H E a = some (.tup xs) := fun a xs e => by
  cases q : E a with
  | none => rw [wth_not q]; exact e
  | some o => rw [n a o q] at e; cases e
/-- change(rows) -/
def spCh (C : List Sn → Prop) (f : List Sn → List Sn) : Sp := fun vs H Q _ => ∃ (ks : List Sn) (us : List V) (a : Addr), vs = [.ref a] ∧ H a = some (.lst us) ∧ Paired (IsT H) (ks.map Sn.toT) us ∧ C ks ∧
  ∀ r H', IsT H' (.tup (Sn.toTs (f ks))) r → Oth [] H H' → Q r H'
/-- change keeps its promise while E is lent -/
def ChAt (P : Program) (w : World) (K : PySem.W.Frag) (mg : Str → Option Value) (base : Heap) (kc : Nat) (g : Addr) (E : Lnd) (C : List Sn → Prop) (f : List Sn → List Sn) (H : Hp) : Prop :=
  ∃ cc q sp t vm, Cal P w K mg base kc g E cc q sp ∧ (∀ vs H Q E', IsT H t vm → spCh C f vs H Q E' → sp vs H Q E') ∧ Lent H E ∧ H cc = some (LamX.CodeO cc q) ∧ IsT H t vm
theorem ChAt.oth {P : Program} {w : World} {K : PySem.W.Frag} {mg : Str → Option Value} {base : Heap} {kc : Nat} {g : Addr} {E : Lnd} {C : List Sn → Prop} {f : List Sn → List Sn} {H H' : Hp} {S : List Addr} (h : ChAt P w K mg base kc g E C f H) (o : Oth S H H') (n : ∀ b ∈ S, ∀ xs, H b = none ∨ H b = some (.lst xs)) : ChAt P w K mg base kc g E C f H' := by
  obtain ⟨cc, q, sp, t, vm, c, i, l, e, tv⟩ := h
  refine ⟨cc, q, sp, t, vm, c, i, fun b ob eb => o.keep b _ (fun z => ?_) (l b ob eb), o.keep cc _ (fun z => ?_) e, tv.oth o⟩
  · rcases n b z [] with x | x <;> rw [l b ob eb] at x <;> cases x
  · rcases n cc z [] with x | x <;> rw [e] at x <;> cases x
def spIn (P : Program) (w : World) (K : PySem.W.Frag) (mg : Str → Option Value) (base : Heap) (kc n : Nat) : Sp := fun vs H Q _ => ∃ (ns : List Sn) (p : Key0) (v : V) (g : Addr) (E : Lnd) (C : List Sn → Prop) (f : List Sn → List Sn), vs = [v, k0V p, .ref g] ∧ IsT H (.tup (Sn.toTs ns)) v ∧ Sn.hts ns < n ∧ (Sn.all ns).length ≤ 1000 ∧
  ChAt P w K mg base kc g E C f H ∧ (p = none → C ns) ∧ (∀ q ∈ Sn.all ns, q.isB = true → p = some q.num → C q.kids) ∧
  ∀ r H', IsT H' (.tup (Sn.toTs (inKey p f ns))) r → Oth [] H H' → Q r H'
end Pw
namespace Pw
open PySem PySem.Spec PyProof.Rows L2
structure S51 (B tree : List Sn) (ops : List Op) (turn : Nat) : Prop where
  runs : (Gw.start B).Runs ops
  sim : Sim ((Gw.start B).run ops) tree
  rng : ∀ x ∈ nums (Sn.all tree), x < 12 ∨ (100 ≤ x ∧ x < 100 + turn)
  fr : ∀ x, 100 + turn ≤ x → ((Gw.start B).run ops).around (some x) = none ∧ ((Gw.start B).run ops).rows (some x) = none
  len : ops.length ≤ 2 * turn
section
variable {B tree : List Sn} {ops : List Op} {turn : Nat} {F : Fst}
theorem fit_num (ok : F.Ok) (hB : FitAt F none B) : ∀ x ∈ nums (Sn.all B), x < 12 := fun x hx => by
  obtain ⟨q, hq, rfl⟩ := List.mem_map.mp hx
  obtain ⟨z, hz, rfl⟩ := List.mem_map.mp hq
  have h1 := (hB.1 z hz).1
  have h2 := ok.hi
  omega
theorem S51.start (ok : F.Ok) (hB : FitAt F none B) : S51 B B [] 0 := by
  have nd := all_nodup ok hB
  have lo := fit_num ok hB
  refine ⟨trivial, ⟨⟨(start_rows ok hB).mpr (List.mem_map.mpr ⟨(none, B), List.mem_cons_self, rfl⟩), fun q hq => ⟨?_, ?_⟩⟩, start_wf ok hB, nd⟩, fun x hx => .inl (lo x hx), fun x hx => ⟨?_, ?_⟩, Nat.le_refl _⟩
  · show (lastV (numK (Sn.all B)) (some q.num)).map Sn.bare = some q.bare
    rw [numK_some nd hq]; rfl
  · by_cases ib : q.isB = true
    · rw [if_pos ib]; exact (start_rows ok hB).mpr (fam_box hq ib)
    · rw [if_neg ib]
      show (Gw.start B).rows (some q.num) = none
      cases e : (Gw.start B).rows (some q.num) with
      | none => rfl
      | some l =>
        exfalso
        rcases fam_key.mp (List.mem_map.mpr ⟨_, (start_rows ok hB).mp e, rfl⟩) with z | ⟨b, hb, ibb, z⟩
        · cases z
        · have := num_inj nd hq hb (Option.some.inj z)
          rw [this] at ib; exact ib ibb
  · show (Gw.start B).around (some x) = none
    cases e : (Gw.start B).around (some x) with
    | none => rfl
    | some p =>
      have := lo x ((start_ar ok hB x p).mp e).2
      omega
  · show (Gw.start B).rows (some x) = none
    cases e : (Gw.start B).rows (some x) with
    | none => rfl
    | some l =>
      exfalso
      rcases fam_key.mp (List.mem_map.mpr ⟨_, (start_rows ok hB).mp e, rfl⟩) with z | ⟨b, hb, ibb, z⟩
      · cases z
      · have := lo b.num (List.mem_map.mpr ⟨b, hb, rfl⟩)
        have := Option.some.inj z
        omega
theorem S51.next (h : S51 B tree ops turn) : S51 B tree ops (turn + 1) :=
  ⟨h.runs, h.sim, fun x hx => (h.rng x hx).imp id fun z => ⟨z.1, by omega⟩, fun x hx => h.fr x (by omega), by have := h.len; omega⟩
theorem S51.run1 (h : S51 B tree ops turn) (op : Op) : (Gw.start B).run (ops ++ [op]) = ((Gw.start B).run ops).step op := by rw [Gw.run_app]; rfl
theorem S51.many (h : S51 B tree ops turn) : (Sn.all tree).length ≤ 12 + turn := by
  have := nodupN_le (12 + turn) ((nums (Sn.all tree)).map fun x => if x < 12 then x else x - 88) ?_ ?_
  · rw [List.length_map] at this
    unfold nums at this
    rwa [List.length_map] at this
  · refine List.pairwise_map.mpr (List.Pairwise.imp_of_mem (fun {a b} ha hb n e => ?_) h.sim.nd)
    have h1 := h.rng a ha
    have h2 := h.rng b hb
    split at e <;> split at e <;> omega
  · intro x hx
    obtain ⟨y, hy, rfl⟩ := List.mem_map.mp hx
    have := h.rng y hy
    split <;> omega
theorem S51.ht (h : S51 B tree ops turn) : Sn.hts tree ≤ 12 + turn := Nat.le_trans (hts_le tree) h.many
theorem S51.take (h : S51 B tree ops turn) (n : Nat) : S51 B (Sn.wos n tree) (ops ++ [.take n]) (turn + 1) := by
  have e := h.run1 (.take n)
  refine ⟨Gw.runs_app h.runs ⟨h.sim.wf.leaveOk n, trivial⟩, by rw [e]; exact h.sim.take n, fun x hx => ?_, fun x hx => ?_, by rw [List.length_append]; have := h.len; simp; omega⟩
  · exact (h.rng x ((sub_wos n tree).subset hx)).imp id fun z => ⟨z.1, by omega⟩
  · rw [e]
    obtain ⟨a, b⟩ := h.fr x (by omega)
    refine ⟨?_, ?_⟩
    · show (((Gw.start B).run ops).leave n).around _ = _
      rw [Gw.leave_around]; split <;> first | rfl | exact a
    · show (((Gw.start B).run ops).leave n).rows _ = _
      rw [h.sim.wf.leave_rows, b]; rfl
theorem S51.leaf (h : S51 B tree ops turn) (m : Sn) (op : Op) (hop : ((Gw.start B).run ops).step op = { (Gw.start B).run ops with bare := setF ((Gw.start B).run ops).bare (some m.num) (some m) }) (hok : ((Gw.start B).run ops).Ok op) (hb : m.isB = false) (hl : ∀ q ∈ Sn.all tree, q.num = m.num → q.isB = false) :
    S51 B (Sn.pts m tree) (ops ++ [op]) (turn + 1) := by
  have e := h.run1 op
  have hk : m.kids = [] := by cases m <;> first | rfl | cases hb
  refine ⟨Gw.runs_app h.runs ⟨hok, trivial⟩, by rw [e, hop]; exact h.sim.leaf m hb hl, fun x hx => ?_, fun x hx => ?_, by rw [List.length_append]; have := h.len; simp; omega⟩
  · exact (h.rng x ((sub_pts hk tree).subset hx)).imp id fun z => ⟨z.1, by omega⟩
  · rw [e, hop]
    exact h.fr x (by omega)
/-- a family and a place in it -/
def Here (tree : List Sn) (p : Key0) (ks : List Sn) (b : Key0) : Prop := (p, ks) ∈ Sn.fams tree ∧ ∀ y, b = some y → y ∈ nums ks
theorem here_of {p : Key0} {ks : List Sn} (h : (p, ks) ∈ Sn.fams tree) : (p = none ∧ ks = tree) ∨ ∃ q ∈ Sn.all tree, q.isB = true ∧ p = some q.num ∧ ks = q.kids := by
  rcases List.mem_cons.mp h with e | h
  · cases e; exact .inl ⟨rfl, rfl⟩
  · obtain ⟨q, hq, e⟩ := List.mem_map.mp h
    cases e
    obtain ⟨h1, h2⟩ := List.mem_filter.mp hq
    exact .inr ⟨q, h1, h2, rfl, rfl⟩
theorem Sim.rows {g : Gw} (s : Sim g tree) {p : Key0} {ks : List Sn} (h : (p, ks) ∈ Sn.fams tree) : g.rows p = some (nums ks) := by
  rcases here_of h with ⟨rfl, rfl⟩ | ⟨q, hq, ib, rfl, rfl⟩
  · exact s.gr.1
  · rw [(s.node hq).2, if_pos ib]
theorem fams_sub {p : Key0} {ks : List Sn} (h : (p, ks) ∈ Sn.fams tree) : ∀ x ∈ Sn.all ks, x ∈ Sn.all tree := by
  rcases here_of h with ⟨rfl, rfl⟩ | ⟨q, hq, ib, rfl, rfl⟩
  · exact fun x hx => hx
  · exact fun x hx => Sn.all_all hq hx
theorem S51.make (h : S51 B tree ops turn) (m : Sn) {p b : Key0} {ks : List Sn} (hm : m.num = 100 + turn) (hk : m.kids = []) (hh : Here tree p ks b) :
    S51 B (inKey p (insS m b) tree) (ops ++ [.make m, .put m.num p b]) (turn + 1) := by
  have nm : m.num ∉ nums (Sn.all tree) := fun z => by have := h.rng _ z; omega
  obtain ⟨f1, f2⟩ := h.fr m.num (by omega)
  obtain ⟨s1, n1, a1⟩ := h.sim.make m hk nm f2
  have eall : Sn.all [m] = [m] := by rw [Sn.all_cons, hk]; rfl
  generalize hg : (Gw.start B).run ops = g at s1 n1 a1 f1 f2
  have er : (Gw.start B).run (ops ++ [.make m, .put m.num p b]) = ((g.step (.make m)).leave m.num).put m.num p b := by rw [Gw.run_app, hg]; rfl
  have ea : (g.step (.make m)).around (some m.num) = none := by rw [a1]; exact f1
  have el : (g.step (.make m)).leave m.num = g.step (.make m) := by unfold Gw.leave; rw [ea]
  have hp : ∀ x, p = some x → x ∉ nums (Sn.all [m]) := fun x e z => by
    rcases here_of hh.1 with ⟨rfl, _⟩ | ⟨q, hq, _, rfl, _⟩
    · cases e
    · rw [eall] at z
      have z : x = m.num := List.mem_singleton.mp z
      exact nm (by rw [← z, ← Option.some.inj e]; exact List.mem_map.mpr ⟨q, hq, rfl⟩)
  have ho : (g.step (.make m)).PutOk p b := ⟨nums ks, s1.rows hh.1, hh.2⟩
  refine ⟨Gw.runs_app h.runs ?_, ?_, fun x hx => ?_, fun x hx => ?_, by rw [List.length_append]; have := h.len; simp; omega⟩
  · rw [hg]
    exact ⟨trivial, ⟨s1.wf.leaveOk _, by rw [el]; exact ho⟩, trivial⟩
  · rw [er, el]
    exact s1.put m p b ea ho (fun q hq => by rw [eall] at hq; rw [List.mem_singleton.mp hq]; exact n1) (by rw [eall]; exact List.pairwise_singleton _ _) (fun x hx => by rw [eall] at hx; rw [show x = m.num from List.mem_singleton.mp hx]; exact nm) hp
  · have hx2 : x ∈ nums (Sn.all [m]) ∨ x ∈ nums (Sn.all tree) := by
      obtain ⟨q, hq, rfl⟩ := List.mem_map.mp hx
      cases p with
      | none =>
        rcases List.mem_append.mp ((all_insS m b tree).mem_iff.mp hq) with z | z
        · exact .inl (List.mem_map.mpr ⟨q, z, rfl⟩)
        · exact .inr (List.mem_map.mpr ⟨q, z, rfl⟩)
      | some p =>
        rcases mem_inS p _ tree q hq with ⟨q', hq', e1, e2, z⟩ | ⟨q', hq', rfl⟩
        · rcases List.mem_append.mp ((all_insS m b q'.kids).mem_iff.mp z) with z | z
          · exact .inl (List.mem_map.mpr ⟨q, z, rfl⟩)
          · exact .inr (List.mem_map.mpr ⟨q, Sn.all_all hq' z, rfl⟩)
        · rw [in1_num]; exact .inr (List.mem_map.mpr ⟨q', hq', rfl⟩)
    rcases hx2 with z | z
    · rw [eall] at z
      rw [show x = m.num from List.mem_singleton.mp z]
      exact .inr ⟨by omega, by omega⟩
    · exact (h.rng x z).imp id fun z => ⟨z.1, by omega⟩
  · rw [er, el]
    have ne : x ≠ m.num := by omega
    obtain ⟨a, b'⟩ := h.fr x (by omega)
    rw [hg] at a b'
    refine ⟨?_, ?_⟩
    · rw [Gw.put_around, if_neg ne, a1]; exact a
    · have r1 : (g.step (.make m)).rows (some x) = none := by
        show (if m.isB then setF g.rows (some m.num) (some []) else g.rows) (some x) = _
        by_cases c : m.isB = true
        · rw [if_pos c, setF_ne fun z => ne (Option.some.inj z)]; exact b'
        · rw [if_neg c]; exact b'
      rw [Gw.put_rows]
      split
      · rename_i z; rw [← z, r1]; rfl
      · exact r1
theorem S51.move (h : S51 B tree ops turn) (m : Sn) {p b : Key0} {ks : List Sn} (hh : Here tree p ks b) (hm : m ∈ ks) (hb : b ≠ some m.num) :
    S51 B (inKey p (insS m b) (Sn.wos m.num tree)) (ops ++ [.put m.num p b]) (turn + 1) := by
  have mt : m ∈ Sn.all tree := fams_sub hh.1 m (Sn.mem_all hm)
  generalize hg : (Gw.start B).run ops = g
  have sg : Sim g tree := hg ▸ h.sim
  have s1 := sg.take m.num
  have er : (Gw.start B).run (ops ++ [.put m.num p b]) = (g.leave m.num).put m.num p b := by rw [Gw.run_app, hg]; rfl
  have ea : (g.leave m.num).around (some m.num) = none := by rw [Gw.leave_around, if_pos rfl]
  have pe := wos_perm m tree sg.nd mt
  have nd2 := pe.nodup_iff.mp sg.nd
  obtain ⟨d1, d2, d3⟩ := List.nodup_append.mp nd2
  have rk := sg.rows hh.1
  have ho : (g.leave m.num).PutOk p b := by
    refine ⟨(nums ks).erase m.num, by rw [sg.wf.leave_rows, rk]; rfl, fun y e => ?_⟩
    exact (List.mem_erase_of_ne fun z => hb (by rw [e, z])).mpr (hh.2 y e)
  have sub : ∀ q ∈ Sn.all [m], q ∈ Sn.all tree := fun q hq => by
    rcases mem_cons_all.mp hq with z | z | z
    · rw [z]; exact mt
    · exact Sn.all_all mt z
    · cases z
  have hp : ∀ x, p = some x → x ∉ nums (Sn.all [m]) := fun x e z => by
    rcases here_of hh.1 with ⟨rfl, _⟩ | ⟨q, hq, _, rfl, rfl⟩
    · cases e
    · have e := Option.some.inj e
      have no := own_not sg.nd hq
      obtain ⟨y, hy, ey⟩ := List.mem_map.mp z
      have yk : y ∈ Sn.all q.kids := by
        rcases mem_cons_all.mp hy with z | z | z
        · rw [z]; exact Sn.mem_all hm
        · exact Sn.all_all (Sn.mem_all hm) z
        · cases z
      exact no (by rw [e, ← ey]; exact List.mem_map.mpr ⟨y, yk, rfl⟩)
  have nodes : ∀ q ∈ Sn.all [m], (g.leave m.num).Node q := fun q hq => by
    obtain ⟨a, b'⟩ := sg.node (sub q hq)
    refine ⟨by rw [Gw.leave_bare]; exact a, ?_⟩
    rw [sg.wf.leave_rows, b']
    by_cases c : q.isB = true
    · rw [if_pos c]
      refine congrArg some (List.erase_of_not_mem fun z => ?_)
      -- m is not among what is in m
      have no := own_not sg.nd mt
      have z2 : m.num ∈ nums (Sn.all q.kids) := (top_sub q.kids).subset z
      obtain ⟨y, hy, ey⟩ := List.mem_map.mp z2
      rcases mem_cons_all.mp hq with z | z | z
      · rw [z] at z2; exact no z2
      · exact no (by rw [← ey]; exact List.mem_map.mpr ⟨y, Sn.all_all z hy, rfl⟩)
      · cases z
    · rw [if_neg c]; rfl
  refine ⟨Gw.runs_app h.runs ?_, ?_, fun x hx => ?_, fun x hx => ?_, by rw [List.length_append]; have := h.len; simp; omega⟩
  · rw [hg]
    exact ⟨⟨sg.wf.leaveOk _, ho⟩, trivial⟩
  · rw [er]
    exact s1.put m p b ea ho nodes d1 (fun x hx z => d3 x hx x z rfl) hp
  · have hx2 : x ∈ nums (Sn.all tree) := by
      have cl : ∀ q, q ∈ Sn.all [m] ∨ q ∈ Sn.all (Sn.wos m.num tree) → q.num ∈ nums (Sn.all tree) := fun q z => by
        rcases z with z | z
        · exact List.mem_map.mpr ⟨q, sub q z, rfl⟩
        · exact (sub_wos m.num tree).subset (List.mem_map.mpr ⟨q, z, rfl⟩)
      obtain ⟨q, hq, rfl⟩ := List.mem_map.mp hx
      cases p with
      | none => exact cl q (List.mem_append.mp ((all_insS m b _).mem_iff.mp hq))
      | some p =>
        rcases mem_inS p _ _ q hq with ⟨q', hq', e1, e2, z⟩ | ⟨q', hq', rfl⟩
        · exact cl q ((List.mem_append.mp ((all_insS m b q'.kids).mem_iff.mp z)).imp id fun z => Sn.all_all hq' z)
        · rw [in1_num]; exact cl q' (.inr hq')
    exact (h.rng x hx2).imp id fun z => ⟨z.1, by omega⟩
  · rw [er]
    obtain ⟨a, b'⟩ := h.fr x (by omega)
    rw [hg] at a b'
    have ne : x ≠ m.num := fun z => by
      have := h.rng m.num (List.mem_map.mpr ⟨m, mt, rfl⟩)
      omega
    refine ⟨?_, ?_⟩
    · rw [Gw.put_around, if_neg ne, Gw.leave_around, if_neg ne]; exact a
    · have r1 : (g.leave m.num).rows (some x) = none := by rw [sg.wf.leave_rows, b']; rfl
      rw [Gw.put_rows]
      split
      · rename_i z; rw [← z, r1]; rfl
      · exact r1
/-! where it may be put -/
theorem S51.at1 (h : S51 B tree ops turn) (ht : turn ≤ 100) (m : Sn) {p b : Key0} {ks : List Sn} (hh : Here tree p ks b) : (p = none → PutAt m b tree) ∧ ∀ q ∈ Sn.all tree, q.isB = true → p = some q.num → PutAt m b q.kids := by
  have lm := h.many
  have l1 := Sn.len_all tree
  rcases here_of hh.1 with ⟨rfl, e⟩ | ⟨q0, hq0, _, rfl, e⟩
  · exact ⟨fun _ => ⟨by omega, by rw [← e]; exact hh.2⟩, fun q _ _ z => nomatch z⟩
  · refine ⟨fun z => (nomatch z), fun q hq _ z => ?_⟩
    have := num_inj h.sim.nd hq0 hq (Option.some.inj z)
    subst this
    have l2 := Sn.kids_sub (Nat.le_refl _) hq
    have l3 := Sn.len_all q0.kids
    exact ⟨by omega, by rw [← e]; exact hh.2⟩
theorem S51.at2 (h : S51 B tree ops turn) (ht : turn ≤ 100) (m : Sn) {p b : Key0} {ks : List Sn} (hh : Here tree p ks b) (hb : b ≠ some m.num) : (p = none → PutAt m b (Sn.wos m.num tree)) ∧ ∀ q ∈ Sn.all (Sn.wos m.num tree), q.isB = true → p = some q.num → PutAt m b q.kids := by
  have lm := h.many
  have l1 := Sn.len_all tree
  have inn : ∀ l : List Sn, (∀ y, b = some y → y ∈ nums l) → ∀ y, b = some y → y ∈ nums (Sn.wos m.num l) := fun l hl y e => by
    rw [nums_wos]
    exact List.mem_filter.mpr ⟨hl y e, decide_eq_true fun z => hb (by rw [e, z])⟩
  rcases here_of hh.1 with ⟨rfl, e⟩ | ⟨q0, hq0, _, rfl, e⟩
  · exact ⟨fun _ => ⟨Nat.le_trans (wos_len _ _) (by omega), inn tree (by rw [← e]; exact hh.2)⟩, fun q _ _ z => nomatch z⟩
  · refine ⟨fun z => (nomatch z), fun q hq _ z => ?_⟩
    obtain ⟨q1, hq1, _, rfl⟩ := mem_wos m.num tree q hq
    rw [wo1_num] at z
    have := num_inj h.sim.nd hq0 hq1 (Option.some.inj z)
    subst this
    have l2 := Sn.kids_sub (Nat.le_refl _) hq0
    have l3 := Sn.len_all q0.kids
    rw [wo1_kids]
    exact ⟨Nat.le_trans (wos_len _ _) (by omega), inn q0.kids (by rw [← e]; exact hh.2)⟩
end
/-! ### the lambda of the law -/
open LamX NdefX
theorem tabS_oth {H H' : Hp} {P : Addr} {q : Str} {S : List Addr} (t : TabS H P q) (o : Oth S H H') (n : ∀ b ∈ S, H b = none ∨ ∃ xs, H b = some (.lst xs)) : TabS H' P q := by
  have kp : ∀ b u, H b = some u → (∀ xs, u ≠ .lst xs) → H' b = some u := fun b u e z => o.keep b u (fun hb => by
    rcases n b hb with x | ⟨xs, x⟩
    · rw [e] at x; cases x
    · rw [e] at x; exact z xs (Option.some.inj x)) e
  obtain ⟨ps, h1, h2, h3⟩ := t
  refine ⟨ps, kp _ _ h1 (fun _ z => nomatch z), h2, fun pos cv hc => ?_⟩
  obtain ⟨c, e1, e2⟩ := h3 pos cv hc
  exact ⟨c, e1, kp _ _ e2 (fun xs z => by unfold CodeO at z; cases z)⟩
/-- the lambda's promise: ws, what node and behind are -/
def spLm (ws : List (Option V)) : Sp := fun vs H Q _ => ∃ (ks : List Sn) (us : List V) (a : Addr) (m : Sn) (v : V) (b : Key0), ws = [some v, some (k0V b)] ∧ vs = [.ref a] ∧ H a = some (.lst us) ∧ Paired (IsT H) (ks.map Sn.toT) us ∧ IsT H m.toT v ∧ PutAt m b ks ∧
  ∀ r H', IsT H' (.tup (Sn.toTs (insS m b ks))) r → Oth [] H H' → Q r H'
theorem lam_before {P : Program} {w : World} {K : PySem.W.Frag} {mg : Str → Option Value} {base : Heap} {kb : Nat} {fB : Addr} {dB : FuncData} (G : FnOk P w K mg base CX0 kb fB dB ["rows", "node", "behind"] spBe) (bB : Binds K dB ["rows", "node", "behind"] []) (kB : PySem.W.keepIn K (.ref fB) = true) (mB : mg "_law_before" = some (.ref fB))
    {q : Str} {params : Arguments} {scope : Scope} {cl : List (Str × Addr)} {f c' : Addr} {A : Around} {outer : List Env} {s : Shared} {H : Hp} {vs : List V} {ws : List (Option V)} {Q : VK} {p1 p2 p3 p4 p5 : Pos} (hg : scope.names.lookup ("_law_before" : Str) = some .globalImplicit) (h1 : Vis scope "rows") (h2 : Vis scope "node") (h3 : Vis scope "behind")
    (hr : Room kb (A.deeper (envF (lamF q params scope cl c') f s.heap.objs.size))) (hs : spLm ws vs H Q (fun _ _ _ => False)) :
    ∃ tb, PE (ncx CX0 P w K mg base ["rows", "node", "behind"] (lamF q params scope cl c') f A outer s H (fun _ _ _ => False)) (.Call (.Name "_law_before" p1) [.Name "rows" p2, .Name "node" p3, .Name "behind" p4] [] p5) tb ∧ tb (startF ["rows", "node", "behind"] vs ws) H Q := by
  refine ⟨_, pe_call (X := ncx CX0 P w K mg base ["rows", "node", "behind"] (lamF q params scope cl c') f A outer s H (fun _ _ _ => False)) (E := fun _ _ _ => False) G hr hg mB kB bB .nil (fun _ _ _ _ _ _ _ z => z.elim) (pa_cons (pe_var (i := 0) rfl h1) (pa_cons (pe_var (i := 1) rfl h2) (pa_cons (pe_var (i := 2) rfl h3) pa_nil))), ?_⟩
  obtain ⟨ks, us, a, m, v, b, rfl, rfl, ha, pu, tv, hp, hq⟩ := hs
  exact ⟨_, rfl, _, rfl, _, rfl, ks, us, a, m, v, b, rfl, ha, pu, tv, hp, hq⟩
/-- the reading of _law_in(tree, family[0], lambda ..) -/
theorem lend_in {P : Program} {w : World} {K : PySem.W.Frag} {mg : Str → Option Value} {base : Heap} {kc n : Nat} {O : Addr → Addr → HO} {q : Str} {T : Addr} {js : List Nat} {t : TA} {σ : L2.St} {H : Hp} {Q : VK} (hO : ∀ f c', ∃ φ, O f c' = .ext φ)
    {tree : List Sn} {v vm : V} {p b : Key0} {m : Sn} (ht : ∀ Q2 : List V → Hp → Prop, (tLamV [(T, q)] O q σ H fun x H1 => Q2 [v, k0V p, x] H1) → t σ H Q2) (hT : TabS H T q) (hjs : js.map (slotAt σ) = [some vm, some (k0V b)]) (tv : IsT H (.tup (Sn.toTs tree)) v) (tm : IsT H m.toT vm) (hh : Sn.hts tree < n) (hc : (Sn.all tree).length ≤ 1000)
    (h0 : p = none → PutAt m b tree) (h1 : ∀ q ∈ Sn.all tree, q.isB = true → p = some q.num → PutAt m b q.kids)
    (hq : ∀ r H', IsT H' (.tup (Sn.toTs (inKey p (insS m b) tree))) r → ExtN H H' → TabS H' T q → Q r H') :
    tLend O q js (fun f c' E ws => Cal P w K mg base kc f E c' q (spLm ws)) (spIn P w K mg base kc n) t σ H Q := by
  refine ht _ ⟨fun p hp => by rw [List.mem_singleton.mp hp]; exact hT, fun f c' H1 eN _ hT1 hf hf1 hc1 nc => ?_⟩
  have ncf : c' ≠ f := fun e => nc q (by rw [e] at hc1; exact hc1)
  refine ⟨f, c', hf1, hc1, ncf, fun E hE cal => ?_⟩
  have hT1 : TabS H1 T q := hT1 _ List.mem_cons_self
  have kp : ∀ a o, H a = some o → (∀ ps, o ≠ .tbl ps) → a ≠ f ∧ H1 a = some o := fun a o e n => ⟨ne_of_none e hf, eN a o e n⟩
  have tp : ∀ a xs, H a = some (.tup xs) → (wth H1 E) a = some (.tup xs) := fun a xs e => by
    obtain ⟨n, e1⟩ := kp a _ e (fun _ z => nomatch z)
    rw [wth_not (hE a _ n e1)]; exact e1
  have lent : Lent (wth H1 E) E := fun b o e => wth_in e
  rw [hjs] at cal
  refine ⟨tree, p, v, f, E, PutAt m b, insS m b, rfl, tv.tups tp, hh, hc, ⟨c', q, _, m.toT, vm, cal, fun vs H2 Q2 E' tm2 ⟨ks, us, a, e1, e2, e3, e4, e5⟩ => ⟨ks, us, a, m, vm, b, rfl, e1, e2, e3, tm2, e4, e5⟩, lent, ?_, tm.tups tp⟩, h0, h1, fun r H' tr o => ?_⟩
  · rw [wth_not (hE c' _ ncf hc1)]; exact hc1
  · have go : ∀ a u, a ≠ f → H1 a = some u → (wout H' E) a = some u := fun a u n e => by
      have e0 := hE a u n e
      rw [wout_not e0]
      exact o.keep a u (by simp) (by rw [wth_not e0]; exact e)
    refine hq r _ (tr.tups (lent_tups (lent.oth o (fun b h => nomatch h)))) (fun a u e n => ?_) ?_
    · obtain ⟨n1, e1⟩ := kp a u e n
      exact go a u n1 e1
    · obtain ⟨ps, a1, a2, a3⟩ := hT1
      have nf : ∀ c u, H1 c = some (CodeO c u) → c ≠ f := fun c u e z => nc u (by rw [z] at e; exact e)
      refine ⟨ps, go T _ (fun z => ?_) a1, a2, fun pos cv hcv => ?_⟩
      · obtain ⟨φ, hφ⟩ := hO f c'
        rw [z, hf1, hφ] at a1; cases a1
      · obtain ⟨c, e1, e2⟩ := a3 pos cv hcv
        exact ⟨c, e1, go c _ (nf c q e2) e2⟩
/-! ### the law's state -/
def spTwoB : Sp := fun vs H Q _ => ∃ b d rest, vs = [.ref b] ∧ Box H b d rest ∧
  ∀ r v1 v2 F B A H', Fst.Ok F → H' r = some (.lst [v1, v2]) → r ≠ b → IsT H' (.tup (Sn.toTs B)) v1 → IsT H' (.tup (Sn.toTs A)) v2 → FitAt F none B → FitAt F none A → Sn.hts B < 13 → Sn.hts A < 13 → Box H' b d rest → Oth [b] H H' → Q (.ref r) H'
structure St51 (H : Hp) (b d : Addr) (rest : List V) (po T : Addr) (qL : Str) (v v0 : V) (B tree : List Sn) (ops : List Op) (turn : Nat) : Prop where
  bx : Box H b d rest
  pl : ∃ out, H po = some (.lst out) ∧ Paired (IsT H) (ops.map Op.toT) out
  tv : IsT H (.tup (Sn.toTs tree)) v
  t0 : IsT H (.tup (Sn.toTs B)) v0
  tab : TabS H T qL
  nb : po ≠ b
  nd : po ≠ d
  m : S51 B tree ops turn
section
variable {H H' : Hp} {b d po T : Addr} {rest : List V} {qL : Str} {v v0 : V} {B tree : List Sn} {ops : List Op} {turn : Nat}
theorem St51.pob (h : St51 H b d rest po T qL v v0 B tree ops turn) : ∃ out, H po = some (.lst out) := by
  obtain ⟨out, e, _⟩ := h.pl
  exact ⟨out, e⟩
theorem St51.bl (h : St51 H b d rest po T qL v v0 B tree ops turn) : ∃ xs, H b = some (.lst xs) := h.bx.is
/-- behind a draw -/
theorem St51.draw (h : St51 H b d rest po T qL v v0 B tree ops turn) (o : Oth [b] H H') (bx : Box H' b d rest) : St51 H' b d rest po T qL v v0 B tree ops turn := by
  obtain ⟨out, e, p⟩ := h.pl
  exact ⟨bx, ⟨out, o.keep _ _ (by simp [h.nb]) e, paired_oth p o⟩, h.tv.oth o, h.t0.oth o, tabS_oth h.tab o (fun x hx => by rw [List.mem_singleton.mp hx]; exact .inr h.bl), h.nb, h.nd, h.m⟩
theorem St51.call (h : St51 H b d rest po T qL v v0 B tree ops turn) (o : Oth [] H H') : St51 H' b d rest po T qL v v0 B tree ops turn := by
  obtain ⟨out, e, p⟩ := h.pl
  exact ⟨h.bx.oth o (by simp) (by simp), ⟨out, o.keep _ _ (by simp) e, paired_oth p o⟩, h.tv.oth o, h.t0.oth o, tabS_oth h.tab o (fun x hx => nomatch hx), h.nb, h.nd, h.m⟩
theorem ext_tup (e : ExtN H H') : ∀ a xs, H a = some (.tup xs) → H' a = some (.tup xs) := fun a xs h => e a _ h fun _ z => nomatch z
theorem St51.lend (h : St51 H b d rest po T qL v v0 B tree ops turn) (e : ExtN H H') (tab : TabS H' T qL) : St51 H' b d rest po T qL v v0 B tree ops turn := by
  obtain ⟨out, ep, p⟩ := h.pl
  refine ⟨?_, ⟨out, e _ _ ep (fun _ z => nomatch z), ptups (ext_tup e) p⟩, h.tv.tups (ext_tup e), h.t0.tups (ext_tup e), tab, h.nb, h.nd, h.m⟩
  obtain ⟨ds, at', h1, h2⟩ := h.bx
  exact ⟨ds, at', e _ _ h1 (fun _ z => nomatch z), e _ _ h2 (fun _ z => nomatch z)⟩
/-- an operation is noted -/
theorem St51.note (h : St51 H b d rest po T qL v v0 B tree ops turn) {op : Op} {x : V} {out : List V} (e : H po = some (.lst out)) (p : Paired (IsT H) (ops.map Op.toT) out) (t : IsT H op.toT x) :
    Box (upd H po (.lst (out ++ [x]))) b d rest ∧ (upd H po (.lst (out ++ [x]))) po = some (.lst (out ++ [x])) ∧ Paired (IsT (upd H po (.lst (out ++ [x])))) ((ops ++ [op]).map Op.toT) (out ++ [x]) ∧ IsT (upd H po (.lst (out ++ [x]))) (.tup (Sn.toTs tree)) v ∧ IsT (upd H po (.lst (out ++ [x]))) (.tup (Sn.toTs B)) v0 ∧ TabS (upd H po (.lst (out ++ [x]))) T qL ∧ Oth [po] H (upd H po (.lst (out ++ [x]))) := by
  have o : Oth [po] H (upd H po (.lst (out ++ [x]))) := Oth.put (by simp) e
  refine ⟨h.bx.oth o (by simp [h.nb.symm]) (by simp [h.nd.symm]), upd_same, ?_, h.tv.oth o, h.t0.oth o, tabS_oth h.tab o (fun y hy => by rw [List.mem_singleton.mp hy]; exact .inr ⟨out, e⟩), o⟩
  rw [List.map_append]
  exact paired_app (paired_oth p o) (.cons (t.oth o) .nil)
theorem St51.olen (h : St51 H b d rest po T qL v v0 B tree ops turn) {out : List V} (p : Paired (IsT H) (ops.map Op.toT) out) : out.length ≤ 2 * turn := by
  have := (paired_get p).1
  rw [List.length_map] at this
  rw [this]; exact h.m.len
end
theorem int11 (i : Nat) (h : i ≤ 10) : (Str.ofString (toString ((i : Nat) : Int))).length ≤ 10 ∧ ((i : Nat) : Int).natAbs.log2 < 1920 := by
  have all : ∀ m : Fin 11, (Str.ofString (toString ((m.val : Nat) : Int))).length ≤ 10 ∧ ((m.val : Nat) : Int).natAbs.log2 < 1920 := by decide +kernel
  exact all ⟨i, by omega⟩
theorem sum_t {s : Str} (h : s.length ≤ 10) : ("t" : Str).length + s.length ≤ sizeLine := by
  have h1 : ("t" : Str).length = 1 := by decide +kernel
  have h2 : 11 ≤ sizeLine := by decide
  omega
theorem note51 {H : Hp} {b d po T : Addr} {rest : List V} {qL : Str} {v v0 : V} {B tree : List Sn} {ops : List Op} {op : Op} {x : V} {out : List V} (bx : Box H b d rest) (tv : IsT H (.tup (Sn.toTs tree)) v) (t0 : IsT H (.tup (Sn.toTs B)) v0) (tab : TabS H T qL) (nb : po ≠ b) (nd : po ≠ d) (e : H po = some (.lst out)) (p : Paired (IsT H) (ops.map Op.toT) out) (t : IsT H op.toT x) :
    Box (upd H po (.lst (out ++ [x]))) b d rest ∧ (upd H po (.lst (out ++ [x]))) po = some (.lst (out ++ [x])) ∧ Paired (IsT (upd H po (.lst (out ++ [x])))) ((ops ++ [op]).map Op.toT) (out ++ [x]) ∧ IsT (upd H po (.lst (out ++ [x]))) (.tup (Sn.toTs tree)) v ∧ IsT (upd H po (.lst (out ++ [x]))) (.tup (Sn.toTs B)) v0 ∧ TabS (upd H po (.lst (out ++ [x]))) T qL ∧ Oth [po] H (upd H po (.lst (out ++ [x]))) := by
  have o : Oth [po] H (upd H po (.lst (out ++ [x]))) := Oth.put (by simp) e
  refine ⟨bx.oth o (by simp [nb.symm]) (by simp [nd.symm]), upd_same, ?_, tv.oth o, t0.oth o, tabS_oth tab o (fun y hy => by rw [List.mem_singleton.mp hy]; exact .inr ⟨out, e⟩), o⟩
  rw [List.map_append]
  exact paired_app (paired_oth p o) (.cons (t.oth o) .nil)
theorem box_ext {H H' : Hp} {b d : Addr} {rest : List V} (h : Box H b d rest) (e : ExtN H H') : Box H' b d rest := by
  obtain ⟨ds, at', h1, h2⟩ := h
  exact ⟨ds, at', e _ _ h1 (fun _ z => nomatch z), e _ _ h2 (fun _ z => nomatch z)⟩
end Pw
namespace Pw
open PySem PySem.Spec PyProof.Rows L2
theorem enum_new_tup {v : Value} {o : Obj} {HH : Heap → Prop} (B : Begins v o HH) :
    Meets (Builtin.«enumerate.__new__» ⟨[.type "enumerate", v], []⟩) (fun _ R s => HH s.heap ∧
      R (.ok (.ret (.ref (s.heap.push o).objs.size))) { s with heap := (s.heap.push o).push { cls := .type "enumerate", data := .fields #[.none, .bool false, .ref s.heap.objs.size, rawInt 0, .none, .none] } }) :=
  .of_wp fun prog w A R s h => by
    obtain ⟨hp, g, d, tk, os⟩ := s
    obtain ⟨hB, h⟩ := h
    have isEnum := sub_enumerate
    have begun : ∀ {A' : Around} {E : Value → Shared → Prop} {Q : Value → Shared → Prop}, Q (.ref hp.objs.size) ⟨hp.push o, g, d, tk, os⟩ → wpAny (model prog w) A' (pyIter v) Q E ⟨hp, g, d, tk, os⟩ :=
      fun q => B.iter prog w _ _ ⟨hp, g, d, tk, os⟩ _ hB q
    wp_walk using begun
    refine wpAny_stack_any fun st => wpAny_pure ?_
    split
    · rename_i c _ _ _ _ _
      cases (c == Value.type "enumerate") <;> (wp_walk using begun; exact ⟨_, rfl, h⟩)
    · wp_walk using begun
      exact ⟨_, rfl, h⟩
section
variable {prog : Program} {w : World} {A : Around} {E : Value → Shared → Prop} {s : Shared}
theorem call_enum_tup {t : Addr} {items : Array Value} {Q : Value → Shared → Prop} (hT : IsTup s.heap t items)
    (h : ∀ h', IsEnum h' (s.heap.objs.size + 1) s.heap.objs.size 0 .none → h'.IsTupleIter s.heap.objs.size t 0 → (∀ b o, s.heap.get? b = some o → h'.get? b = some o) → Q (.ref (s.heap.objs.size + 1)) { s with heap := h' }) :
    wpAny (model prog w) A (call (.type "enumerate") [.ref t]) Q E s := by
  refine callType_new F.called_enumerate (by decide) (F.typeCall_enumerate_1 _) (F.newCall_enumerate_1 _) (fun obj => F.args_object_init_2 obj _) F.entry_enumerate_new (enum_new_tup (begins_tuple t items)) ⟨hT, ?_⟩
  generalize ho : ({ cls := .type "tuple_iterator", data := .fields #[.ref t, .int 0 0] } : Obj) = o
  have fr : o.isFreed = false := by subst ho; rfl
  have hz : (s.heap.push o).objs.size = s.heap.objs.size + 1 := Heap.size_push ..
  show _ ∧ _
  rw [hz]
  generalize hq : ({ cls := .type "enumerate", data := .fields #[.none, .bool false, .ref s.heap.objs.size, rawInt 0, .none, .none] } : Obj) = q
  have he : ((s.heap.push o).push q).get? (s.heap.objs.size + 1) = some q := by
    have z := Heap.get?_push_size (s.heap.push o) (o := q) (by subst hq; rfl)
    rw [hz] at z
    exact z
  have he' : IsEnum ((s.heap.push o).push q) (s.heap.objs.size + 1) s.heap.objs.size 0 .none := by subst hq; exact he
  refine ⟨⟨_, he', rfl⟩, h _ he' ?_ fun b ob x => Heap.get?_push_of_some _ (Heap.get?_push_of_some _ x)⟩
  subst ho
  exact ⟨_, Heap.get?_push_of_some _ (Heap.get?_push_size _ rfl), rfl, rfl⟩
end
/-- the tuple at a, its items in new pairs -/
def Itte (K : PySem.W.Frag) (a : Addr) (xs : List V) : It :=
  ⟨fun i H => SqT K H a xs ∧ i < xs.length, fun i H v H' => ∃ T x, v = .ref T ∧ H T = none ∧ H' = upd H T (.tup [.int (i : Nat), x]) ∧ xs[i]? = some x, fun i H => SqT K H a xs ∧ i = xs.length⟩
theorem turn_enumT {P : Program} {w : World} {K : PySem.W.Frag} {elts : List Expr} {kk : Nat} {tpos : Pos} (a e it : Addr) (xs : List V) :
    Turn P w K (.Tuple elts kk tpos) (Itte K a xs) [e, it] e (fun i h => (∃ old, IsEnum h e it ((i : Nat) : Int) old) ∧ h.IsTupleIter it a i ∧ e ≠ it ∧ a ≠ it ∧ a ≠ e) where
  mem := by simp
  obj := fun i h st b hb => by
    obtain ⟨⟨old, he⟩, ⟨o, ho, hc, hd⟩, _⟩ := st
    rcases (by simpa using hb : b = e ∨ b = it) with z | z
    · rw [z]; exact ⟨_, he, fun v q => nomatch q⟩
    · rw [z]; exact ⟨o, ho, fun v q => by rw [hd] at q; cases q⟩
  keep := fun i h h' st k => by
    obtain ⟨⟨old, he⟩, hi, hne⟩ := st
    exact ⟨⟨old, k e (by simp) _ he⟩, hi.at fun o q => k it (by simp) o q, hne⟩
  item := by
    intro X hP hw hK hc i pins s σ H E I hf st hg
    subst hP hw hK
    obtain ⟨⟨old, he⟩, hit, hne, hai, hae⟩ := st
    obtain ⟨hq, hi⟩ := hg
    obtain ⟨its, rv, tp, hz⟩ := I.tuple hq
    have hl := rv.length
    have e_lt : e < s.heap.objs.size := Heap.lt_size he
    have i_lt : it < s.heap.objs.size := by obtain ⟨_, q, _⟩ := hit; exact Heap.lt_size q
    have D := Draws.tuple (prog := X.prog) (w := X.w) (A := X.A.in1) (I.ok.hd hc) it a hai its.toArray
    refine wpAny_pyNext_enum_itemD D he ⟨hit, tp⟩ (by simp only [List.size_toArray]; omega) hne (by simp [hne, hae.symm]) fun u h' tk hu ho st' hT hsz hk => ?_
    obtain ⟨x, hx, ru⟩ : ∃ x, xs[i]? = some x ∧ RelV x u := by
      obtain ⟨u', hu', ru⟩ := rv.get (List.getElem?_eq_getElem hi)
      have hu2 : its[i]? = some u := by simpa using hu
      rw [hu2] at hu'
      cases hu'
      exact ⟨_, List.getElem?_eq_getElem hi, ru⟩
    refine ⟨_, rfl, wpAny_letOwnedTupleGo_enum (s := { s with heap := h', toks := tk + 1 }) ho fun h2 he2 sb => ?_⟩
    have hT2 : h2.get? s.heap.objs.size = some { cls := .type "tuple", data := .seq #[.int i tk, u] } := (sb.2 _ (Nat.ne_of_gt e_lt)).trans hT
    have new : ObjOk X.prog X.w (upd H s.heap.objs.size (.tup [.int (i : Nat), x])) h2 s.heap.objs.size (.tup [.int (i : Nat), x]) :=
      ⟨by show 2 ≤ sizeLine; decide, [.int i tk, u], .cons ⟨_, rfl⟩ (.cons ru .nil), ⟨_, hT2, rfl, _, rfl⟩⟩
    have I1 : Inv X pins σ (upd H s.heap.objs.size (.tup [.int (i : Nat), x])) { s with heap := h2, toks := tk + 1 } :=
      I.turnedNew (ch := [e, it]) (fun b ob hb q => (sb.2 b (fun z => hb (by simp [z]))).trans (hk b ob (fun z => hb (by simp [z])) (fun z => hb (by simp [z])) q)) hf (Nat.le_refl _) new
    refine ⟨.ref s.heap.objs.size, _, I1, rfl, ⟨_, x, rfl, I.hok.fresh (Nat.le_refl _), rfl, hx⟩, ⟨⟨u, ?_⟩, st'.1.at fun o q => (sb.2 it (Ne.symm hne)).trans q, hne, hai, hae⟩, fun b hb => ?_⟩
    · rw [show ((i + 1 : Nat) : Int) = (i : Int) + 1 by omega]
      exact he2
    · have lt : b < s.heap.objs.size := by
        rcases (by simpa using hb : b = e ∨ b = it) with z | z
        · rw [z]; exact e_lt
        · rw [z]; exact i_lt
      rw [upd_ne (Nat.ne_of_lt lt)]
      exact (hf b hb).1
  done := by
    intro X hP hw hK hc i pins s σ H E I hf st hg
    subst hP hw hK
    obtain ⟨⟨old, he⟩, hit, hne, hai, hae⟩ := st
    obtain ⟨hq, rfl⟩ := hg
    obtain ⟨its, rv, tp, hz⟩ := I.tuple hq
    obtain ⟨f0, f1, f2, f3, f4, f5⟩ := hf it (by simp)
    have hl := rv.length
    have D := Draws.tuple (prog := X.prog) (w := X.w) (A := X.A.in1) (I.ok.hd hc) it a hai its.toArray
    have e1 : xs.length = its.toArray.size := by simp only [List.size_toArray]; omega
    rw [e1] at hit he
    exact wpAny_pyNext_enum_endD D he ⟨hit, tp⟩ fun h' eb => ⟨rfl, I.turned (t' := s.toks) (fun b o hb q => eb b o hb q) f0 f1 f3 f4 f5⟩
  self := fun A i s Q E st h => let ⟨⟨_, he⟩, _⟩ := st; wpAny_pyIter_enum he h
def iEnumT (K : PySem.W.Frag) (ta : TA) : TI := fun σ H R => ta σ H fun vs H1 => ∃ a xs, vs = [.ref a] ∧ SqT K H1 a xs ∧ R (Itte K a xs) H1
theorem pi_enumT {X : Cx} {e : Expr} {ta : TA} {p pos tpos : Pos} {elts : List Expr} {kk : Nat} (hg : Gl X "enumerate") (hm : X.mg "enumerate" = none) (ha : PA X [e] ta) (hs : starEach [e] X.env = [(false, eval e X.env)] := by rfl) :
    PI X (.Tuple elts kk tpos) (.Call (.Name "enumerate" p) [e] [] pos) (iEnumT X.K ta) := by
  refine ⟨fun pins s σ H R I h => ?_⟩
  refine Call_ (ld_blt I hg hm boot_enumerate (PyProof.Rows.callWith_type1 (thn (ha.run pos pins s σ H _ I h) fun us s1 ⟨vs, H1, I1, r1, qq⟩ => ?_) hs rfl))
  obtain ⟨a, xs, rfl, hq, q⟩ := qq
  cases r1 with
  | cons r rr =>
    cases rr
    cases r
    obtain ⟨its, rv, tp, hz⟩ := I1.tuple hq
    have a_lt : a < s1.heap.objs.size := tp.lt
    refine call_enum_tup tp fun h' he hit hk => wpAny_pyIter_enum he ?_
    have I2 : Inv X pins σ H1 { s1 with heap := h' } := I1.kept (t' := s1.toks) hk
    refine ⟨s1.heap.objs.size + 1, [s1.heap.objs.size + 1, s1.heap.objs.size], _, _, H1, rfl, I2, turn_enumT a (s1.heap.objs.size + 1) s1.heap.objs.size xs, ⟨⟨.none, he⟩, hit, Nat.succ_ne_self _, Nat.ne_of_lt a_lt, Nat.ne_of_lt (Nat.lt_succ_of_lt a_lt)⟩, fun b hb => ?_, q⟩
    have hle : s1.heap.objs.size ≤ b := by
      rcases (by simpa using hb : b = s1.heap.objs.size + 1 ∨ b = s1.heap.objs.size) with z | z
      · rw [z]; exact Nat.le_add_right _ _
      · rw [z]; exact Nat.le_refl _
    exact I1.fpOk hle (I1.hok.fresh hle)
/-- a for over it -/
theorem for_enumT {K : PySem.W.Frag} {a : Addr} {xs : List V} {g : TG} {tb : TS} {D : Ends} {σ : L2.St} {H : Hp} (Pv : Nat → L2.St → Hp → Prop) (h0 : Pv 0 σ H) (hl : ∀ i σ H, i ≤ xs.length → Pv i σ H → SqT K H a xs)
    (hs : ∀ i x σ H T, xs[i]? = some x → Pv i σ H → H T = none → g (.ref T) σ (upd H T (.tup [.int (i : Nat), x])) fun σ2 H2 => tb { D with nx := Pv (i + 1), ct := Pv (i + 1), bk := D.nx } σ2 H2) (hd : ∀ σ H, Pv xs.length σ H → D.nx σ H) :
    ∃ W : Nat → Nat → L2.St → Hp → Prop, (∃ m, W 0 m σ H) ∧ ∀ i m σ H, W i m σ H →
      ((Itte K a xs).stop i H ∧ D.nx σ H) ∨ ((Itte K a xs).go i H ∧ ∃ N : L2.St → Hp → Prop, (∀ σ' H', N σ' H' → ∃ m', m' < m ∧ W (i + 1) m' σ' H') ∧ ∀ x H', (Itte K a xs).yld i H x H' → g x σ H' fun σ2 H2 => tb { D with nx := N, ct := N, bk := D.nx } σ2 H2) := by
  refine ⟨fun i m σ H => m = xs.length - i ∧ i ≤ xs.length ∧ Pv i σ H, ⟨xs.length, by simp, Nat.zero_le _, h0⟩, ?_⟩
  rintro i m σ H ⟨rfl, hi, p⟩
  have q := hl i σ H hi p
  by_cases lt : i < xs.length
  · refine .inr ⟨⟨q, lt⟩, Pv (i + 1), fun σ' H' p' => ⟨xs.length - (i + 1), by omega, rfl, lt, p'⟩, fun v H' y => ?_⟩
    obtain ⟨T, x, rfl, hT, rfl, hx⟩ := y
    exact hs i x σ H T hx p hT
  · obtain rfl : i = xs.length := by omega
    exact .inl ⟨⟨q, rfl⟩, hd σ H p⟩
end Pw
namespace Pw
open PySem PySem.Spec PyProof.Rows L2
/-! ### the rows of contents -/
def Tp.withins : Tp → List (List Int × List Tp)
  | .box _ _ _ cs => [([], cs)]
  | .each _ cs => [([], cs)]
  | .when _ cs os => [([0], cs), ([1], os)]
  | _ => []
def Tp.rowsOf (pl : List Int) (ar : List Str) (k : Str) : List (List Int × List Tp) → List Rw
  | [] => []
  | p :: r => Tp.lst (pl ++ p.1) 0 (ar ++ [k]) p.2 ++ Tp.rowsOf pl ar k r
theorem Tp.under_eq (t : Tp) (pl : List Int) (ar : List Str) : t.under pl ar = Tp.rowsOf pl ar t.kind t.withins := by
  cases t <;> simp [Tp.under, Tp.withins, Tp.rowsOf, Tp.kind]
theorem Tp.rowsOf_app (pl : List Int) (ar : List Str) (k : Str) : ∀ (a b : List (List Int × List Tp)), Tp.rowsOf pl ar k (a ++ b) = Tp.rowsOf pl ar k a ++ Tp.rowsOf pl ar k b
  | [], b => rfl
  | p :: a, b => by simp only [List.cons_append, Tp.rowsOf, Tp.rowsOf_app pl ar k a b, List.append_assoc]
def pairT (p : List Int × List Tp) : T := .tup [.tup (p.1.map .int), .tup (Tp.toTs p.2)]
theorem Tp.withins_dep (t : Tp) : ∀ p ∈ t.withins, Tp.deps p.2 < t.dep := by
  cases t <;> simp [Tp.withins, Tp.dep] <;> omega
theorem Tp.withins_cnt (t : Tp) : ∀ p ∈ t.withins, Tp.cnts p.2 < t.cnt := by
  cases t <;> simp [Tp.withins, Tp.cnt] <;> omega
theorem Tp.withins_len (t : Tp) : t.withins.length ≤ 2 ∧ ∀ p ∈ t.withins, p.1.length ≤ 1 := by
  cases t <;> simp [Tp.withins]
def spWithin : Sp := fun vs H Q _ => ∃ (t : Tp) (v : V), vs = [v] ∧ IsT H t.toT v ∧ ∀ r H', IsT H' (.tup (t.withins.map pairT)) r → Oth [] H H' → Q r H'
def rowWT (r : Rw) : T := .tup [.tup (r.place.map .int), r.tp.toT, .tup (r.ar.map .str)]
def RowsT (H : Hp) (rows : List Rw) (vs : List V) : Prop := Paired (fun r v => IsT H (rowWT r) v) rows vs
theorem RowsT.oth {H H' : Hp} {S : List Addr} (o : Oth S H H') : ∀ {rows : List Rw} {vs : List V}, RowsT H rows vs → RowsT H' rows vs
  | _, _, .nil => .nil
  | _, _, .cons h t => .cons (h.oth o) (RowsT.oth o t)
theorem RowsT.len {H : Hp} : ∀ {rows : List Rw} {vs : List V}, RowsT H rows vs → vs.length = rows.length
  | _, _, .nil => rfl
  | _, _, .cons _ t => congrArg (· + 1) (RowsT.len t)
def spWalk (n : Nat) : Sp := fun vs H Q _ => ∃ (ts : List Tp) (pl : List Int) (ar : List Str) (vc vb va : V), vs = [vc, vb, va] ∧ IsT H (.tup (Tp.toTs ts)) vc ∧ IsT H (.tup (pl.map .int)) vb ∧ IsT H (.tup (ar.map .str)) va ∧
  Tp.deps ts < n ∧ Tp.cnts ts ≤ 5000 ∧ pl.length + 2 * n ≤ 1000 ∧ ar.length + n ≤ 1000 ∧
  ∀ (p : Addr) (H' : Hp) (rs : List V), H p = none → Oth [] H H' → H' p = some (.lst rs) → RowsT H' (Tp.lst pl 0 ar ts) rs → Q (.ref p) H'
theorem strs_paired {H : Hp} : ∀ (ns : List Str), Paired (IsT H) (ns.map T.str) (ns.map V.str)
  | [] => .nil
  | n :: ns => .cons (.str n) (strs_paired ns)
theorem paired_strs {H : Hp} : ∀ {ns : List Str} {xs : List V}, Paired (IsT H) (ns.map T.str) xs → xs = ns.map V.str
  | [], _, .nil => rfl
  | n :: ns, _, .cons r q => by cases r; rw [paired_strs q]; rfl
theorem IsT.strs {H : Hp} {v : V} {ns : List Str} (h : IsT H (.tup (ns.map T.str)) v) : ∃ a, v = .ref a ∧ H a = some (.tup (ns.map V.str)) := by
  obtain ⟨a, xs, rfl, e, p⟩ := h.inv
  rw [paired_strs p] at e
  exact ⟨a, rfl, e⟩
theorem IsT.mkInts {H : Hp} {a : Addr} {ns : List Int} (e : H a = some (.tup (ns.map V.int))) : IsT H (.tup (ns.map .int)) (.ref a) := .mk e (int_paired ns)
theorem IsT.mkStrs {H : Hp} {a : Addr} {ns : List Str} (e : H a = some (.tup (ns.map V.str))) : IsT H (.tup (ns.map .str)) (.ref a) := .mk e (strs_paired ns)
theorem take_succ {α : Type} {l : List α} {i : Nat} {x : α} (h : l[i]? = some x) : l.take (i + 1) = l.take i ++ [x] := by
  rw [List.take_add_one, h]
  rfl
end Pw
namespace Pw
open PySem PySem.Spec PyProof.Rows L2
/-- the i-th pair, made behind the generator's frame at C -/
def PairAt (rows : List (Value × Value)) (C : Addr) (i : Nat) (v : Value) (h : Heap) : Prop :=
  ∃ (a : Addr) (x y : Value), v = .ref a ∧ C < a ∧ rows[i]? = some (x, y) ∧ h.get? a = some { cls := .type "tuple", data := .seq #[x, y] }
theorem PairAt.later {rows : List (Value × Value)} {C : Addr} {i : Nat} {v : Value} {h h' : Heap} (p : PairAt rows C i v h) (k : ∀ b o, C < b → o.cls = .type "tuple" → h.get? b = some o → h'.get? b = some o) : PairAt rows C i v h' := by
  obtain ⟨a, x, y, e, lt, r, g⟩ := p
  exact ⟨a, x, y, e, lt, r, k a _ lt rfl g⟩
def PxY (C : Addr) (fp wr : List Addr) (n₀ : Nat) (rows : List (Value × Value)) : Protocol := fun m s₀ v s kap =>
  PairAt rows C (n₀ - 1 - m) v s.heap ∧ GenSince C wr s₀ s ∧ ∀ s2 : Shared, (∀ b ∈ C :: fp, ∀ o, s.heap.get? b = some o → s2.heap.get? b = some o) → kap (.send .none) s2
abbrev PxEnd (C : Addr) (wr : List Addr) : GenEnd := fun n s₀ r s₁ => r = .ok .next ∧ (n = 0 ∧ GenSince C wr s₀ s₁)
section
variable {prog : Program} {w : World} {A : Around}
/-- what the walked rows are -/
structure RowsAt (items : Array Value) (rows : List (Value × Value)) (fp wr : List Addr) (href : Heap) : Prop where
  at' : ∀ (i : Nat) (v : Value), items[i]? = some v → ∃ (t : Addr) (x y z : Value), v = .ref t ∧ t ∈ fp ∧ t ∉ wr ∧ IsTup href t #[x, y, z] ∧ rows[i]? = some (x, y)
structure NamesAt (cenv : Env) (xa xb xc : Str) : Prop where
  ka : cenv.kindOf xa = some .local
  kb : cenv.kindOf xb = some .local
  kc : cenv.kindOf xc = some .local
  ab : xa ≠ xb
  ac : xa ≠ xc
  bc : xb ≠ xc
  kind : cenv.scope.kind = .function
  co : cenv.scope.isCoroutine = false
  da : (xa == ("__debug__" : Str)) = false
  db : (xb == ("__debug__" : Str)) = false
theorem pair_made {E : Value → Shared → Prop} {s : Shared} {cenv : Env} {xa xb xc : Str} {q1 q2 q3 : Pos} {k1 : Nat} {m : Str → Option Value} {x y : Value} {Q : Value → Shared → Prop} (N : NamesAt cenv xa xb xc) (hn : s.heap.Ns cenv.locals m) (ha : m xa = some x) (hb : m xb = some y)
    (h : Q (.ref s.heap.objs.size) { s with heap := s.heap.push { cls := .type "tuple", data := .seq #[x, y] } }) : wpAny (model prog w) A (eval (.Tuple [.Name xa q1, .Name xb q2] k1 q3) cenv) Q E s := by
  refine wpAny_Tuple_spliced (PyProof.Rows.args_cons (wpAny_Name (wpAny_loadName_local N.kind N.ka hn ha (PyProof.Rows.args_cons (wpAny_Name (wpAny_loadName_local N.kind N.kb hn hb (PyProof.Rows.args_nil ⟨?_, h⟩)) N.db))) N.da))
  show 2 ≤ sizeLine
  decide
theorem seg_pairs {iter : Expr} {xa xb xc : Str} {pa pb pc pt q1 q2 q3 : Pos} {kt k1 : Nat} {scope : Scope} {pos : Pos} {I : Addr} {fp wr : List Addr} {items : Array Value} {rows : List (Value × Value)} {W2 : Nat → Heap → Prop} {cenv : Env}
    (hh : A.handled = none) (W₀ : ∀ A' : Around, A'.handled = none → Walks prog w A' I fp wr items.size (fun i v => items[i]? = some v) W2) (href : Heap) (N : NamesAt cenv xa xb xc) (R : RowsAt items rows fp wr href)
    (hI : ∀ i h, W2 i h → ∃ (o : Obj) (vs : Array Value), h.get? I = some o ∧ o.cls = .type "list_iterator" ∧ o.data = .fields vs) (hCf : cenv.locals ∉ fp) :
    ∀ (k i : Nat) (s₀ s : Shared) (m : Str → Option Value), items.size - i = k → i ≤ items.size → W2 i s.heap → s.heap.Ns cenv.locals m → GenSince cenv.locals wr s₀ s →
      (∀ b ∈ fp, b ∉ wr → ∀ o, href.get? b = some o → s.heap.get? b = some o) →
      Seg (model prog w) A (PxEnd cenv.locals wr) (PxY cenv.locals fp wr items.size rows) (items.size - i) s₀
        (.compLoop (.GeneratorExp (.Tuple [.Name xa q1, .Name xb q2] k1 q3) [⟨.Tuple [.Name xa pa, .Name xb pb, .Name xc pc] kt pt, iter, [], 0⟩] scope pos) 0 (.ref I) .none cenv)
        ((model prog w).den (.compLoop (.GeneratorExp (.Tuple [.Name xa q1, .Name xb q2] k1 q3) [⟨.Tuple [.Name xa pa, .Name xb pb, .Name xc pc] kt pt, iter, [], 0⟩] scope pos) 0 (.ref I) .none cenv)) [] s := by
  have hA : (A.over (.compLoop (.GeneratorExp (.Tuple [.Name xa q1, .Name xb q2] k1 q3) [⟨.Tuple [.Name xa pa, .Name xb pb, .Name xc pc] kt pt, iter, [], 0⟩] scope pos) 0 (.ref I) .none cenv) []).handled = none := hh
  have hCw : cenv.locals ∉ wr := fun z => hCf ((W₀ A hh).sub _ z)
  have hp : (cenv.scope.kind == .class || (cenv.scope.kind == .module && cenv.locals != cenv.globals)) = false := by rw [N.kind]; rfl
  intro k
  induction k with
  | zero =>
    intro i s₀ s m hk hi hst hn hsince hkp
    obtain rfl : i = items.size := by omega
    show Seg _ A _ _ _ s₀ _ ((compTurn (.GeneratorExp (.Tuple [.Name xa q1, .Name xb q2] k1 q3) [⟨.Tuple [.Name xa pa, .Name xb pb, .Name xc pc] kt pt, iter, [], 0⟩] scope pos) 0 (.ref I) .none cenv).onRaise (leaving cenv)) [] s
    rw [compTurn_gen, Sem.onRaise_eq_wrap, hk]
    refine seg_bind_wrap (wpAny_standAt (seg_bind_wrap ((W₀ _ hA).done s _ _ hst fun h' tk hk' => ?_)))
    exact seg_end (.ok .next) ⟨rfl, rfl, hsince.step fun b o _ hw e => hk' b o hw e⟩
  | succ k ih =>
    intro i s₀ s m hk hi hst hn hsince hkp
    have hlt : i < items.size := by omega
    obtain ⟨r, hr⟩ : ∃ r, items.size - i = r + 1 := ⟨items.size - i - 1, by omega⟩
    have hr' : items.size - (i + 1) = r := by omega
    show Seg _ A _ _ _ s₀ _ ((compTurn (.GeneratorExp (.Tuple [.Name xa q1, .Name xb q2] k1 q3) [⟨.Tuple [.Name xa pa, .Name xb pb, .Name xc pc] kt pt, iter, [], 0⟩] scope pos) 0 (.ref I) .none cenv).onRaise (leaving cenv)) [] s
    rw [compTurn_gen, Sem.onRaise_eq_wrap, hr]
    refine seg_bind_wrap (wpAny_standAt (seg_bind_wrap ((W₀ _ hA).item i s _ _ hlt hst fun v h₁ tk₁ hPv hst₁ hk₁ => ?_)))
    obtain ⟨t, x, y, z, rfl, htf, htw, htup, hrow⟩ := R.at' i v hPv
    obtain ⟨oI, vI, eI, cI, dI⟩ := hI _ _ hst₁
    refine seg_bind_wrap (go_of (s := { s with heap := h₁, toks := tk₁ }) (n := "list_iterator") eI cI dI (by decide) ?_)
    have t1 : IsTup h₁ t #[x, y, z] := by
      obtain ⟨o, e, c⟩ := htup
      exact ⟨o, hk₁ t o htw (hkp t htf htw o e), c⟩
    refine seg_bind_wrap (assign_Tuple_tuple (s := { s with heap := h₁, toks := tk₁ }) hA t1 rfl rfl fun h₂ hx₂ => ?_)
    have k2 : ∀ b o, h₁.get? b = some o → h₂.get? b = some o := fun b o e => hx₂ b o (Nat.ne_of_lt (Heap.lt_size e)) e
    have n2 : h₂.Ns cenv.locals m := (hn.at' fun o e => hk₁ _ o hCw e).at' fun o e => k2 _ o e
    refine assignInOrder_cons (wpAny_assign_Name (wpAny_storeName_local N.ka n2 (fun h₃ n3 b3 => ?_) hp))
    refine assignInOrder_cons (wpAny_assign_Name (wpAny_storeName_local N.kb n3 (fun h₄ n4 b4 => ?_) hp))
    refine assignInOrder_cons (wpAny_assign_Name (wpAny_storeName_local N.kc n4 (fun h₅ n5 b5 => assignInOrder_nil ?_) hp))
    have up : ∀ b o, b ≠ cenv.locals → h₁.get? b = some o → h₅.get? b = some o := fun b o hb e => b5.extBut b o hb (b4.extBut b o hb (b3.extBut b o hb (k2 b o e)))
    have hst5 : W2 (i + 1) h₅ := (W₀ A hh).frame _ _ _ hst₁ fun b hb o e => up b o (fun z => hCf (z ▸ hb)) e
    have hkp5 : ∀ b ∈ fp, b ∉ wr → ∀ o, href.get? b = some o → h₅.get? b = some o := fun b hb hw o e => up b o (fun z => hCf (z ▸ hb)) (hk₁ b o hw (hkp b hb hw o e))
    have since5 : GenSince cenv.locals wr s₀ { s with heap := h₅, toks := tk₁ } := hsince.step fun b o hC hw e => up b o hC (hk₁ b o hw e)
    refine seg_bind_wrap ?_
    rw [List.forIn_nil]
    refine wpAny_pure ?_
    simp only [if_true]
    have hy : ∀ v, yieldOut cenv v = yieldValue v := fun v => by simp only [yieldOut, N.co, Bool.false_eq_true, if_false]
    simp only [hy]
    rw [Sem.bind_eq_wrap', Sem.bind_eq_wrap', Sem.wrap_wrap, Sem.wrap_wrap]
    obtain ⟨m5, n5, ha5, hb5⟩ : ∃ m5, h₅.Ns cenv.locals m5 ∧ m5 xa = some x ∧ m5 xb = some y := ⟨_, n5, by simp [N.ab, N.ac], by simp [N.bc]⟩
    refine seg_wrap (pair_made N (m := m5) ?hn ha5 hb5 ?_)
    case hn => exact n5
    have hC5 : cenv.locals < h₅.objs.size := n5.lt
    have new5 : ∀ b o, h₅.get? b = some o → (h₅.push { cls := .type "tuple", data := .seq #[x, y] }).get? b = some o := fun b o e => Heap.get?_push_of_some _ e
    refine seg_at (seg_yield rfl rfl rfl ⟨⟨h₅.objs.size, x, y, rfl, hC5, ?_, Heap.get?_push_size _ rfl⟩, since5.step fun b o _ _ e => new5 b o e, fun s2 hal => ?_⟩)
    · rw [show items.size - 1 - r = i by omega]
      exact hrow
    · have again := ih (i + 1) s2 s2 _ (by omega) hlt ((W₀ A hh).frame _ _ _ hst5 fun b hb o e => hal b (List.mem_cons_of_mem _ hb) o (new5 b o e))
        ((n5.keeps new5).at' fun o e => hal _ List.mem_cons_self o e) (GenSince.refl _ _ _) fun b hb hw o e => hal b (List.mem_cons_of_mem _ hb) o (new5 b o (hkp5 b hb hw o e))
      rw [hr'] at again
      exact seg_again rfl again
end
end Pw
namespace Pw
open PySem PySem.Spec PyProof.Rows L2
section
variable {prog : Program} {w : World} {A : Around}
theorem seg_pairs0 {iter : Expr} {xa xb xc : Str} {pa pb pc pt q1 q2 q3 : Pos} {kt k1 : Nat} {scope : Scope} {pos : Pos} {I : Addr} {fp wr : List Addr} {items : Array Value} {rows : List (Value × Value)} {W2 : Nat → Heap → Prop} {cenv : Env}
    (hh : A.handled = none) (W₀ : ∀ A' : Around, A'.handled = none → Walks prog w A' I fp wr items.size (fun i v => items[i]? = some v) W2) (href : Heap) (N : NamesAt cenv xa xb xc) (R : RowsAt items rows fp wr href)
    (hI : ∀ i h, W2 i h → ∃ (o : Obj) (vs : Array Value), h.get? I = some o ∧ o.cls = .type "list_iterator" ∧ o.data = .fields vs) (hCf : cenv.locals ∉ fp)
    (s₀ s : Shared) (m : Str → Option Value) (hst : W2 0 s.heap) (hn : s.heap.Ns cenv.locals m) (hsince : GenSince cenv.locals wr s₀ s) (hkp : ∀ b ∈ fp, b ∉ wr → ∀ o, href.get? b = some o → s.heap.get? b = some o) :
    Seg (model prog w) A (PxEnd cenv.locals wr) (PxY cenv.locals fp wr items.size rows) items.size s₀
      (.compStart (.GeneratorExp (.Tuple [.Name xa q1, .Name xb q2] k1 q3) [⟨.Tuple [.Name xa pa, .Name xb pb, .Name xc pc] kt pt, iter, [], 0⟩] scope pos) 0 (.ref I) .none cenv)
      ((model prog w).den (.compStart (.GeneratorExp (.Tuple [.Name xa q1, .Name xb q2] k1 q3) [⟨.Tuple [.Name xa pa, .Name xb pb, .Name xc pc] kt pt, iter, [], 0⟩] scope pos) 0 (.ref I) .none cenv)) [] s := by
  have hA : (A.over (.compStart (.GeneratorExp (.Tuple [.Name xa q1, .Name xb q2] k1 q3) [⟨.Tuple [.Name xa pa, .Name xb pb, .Name xc pc] kt pt, iter, [], 0⟩] scope pos) 0 (.ref I) .none cenv) []).handled = none := hh
  have turns := seg_pairs (iter := iter) (pa := pa) (pb := pb) (pc := pc) (pt := pt) (q1 := q1) (q2 := q2) (q3 := q3) (kt := kt) (k1 := k1) (scope := scope) (pos := pos) hh W₀ href N R hI hCf items.size 0 s₀ s m (Nat.sub_zero _) (Nat.zero_le _) hst hn hsince hkp
  rw [Nat.sub_zero] at turns
  show Seg _ A _ _ _ s₀ _ ((compStart (.GeneratorExp (.Tuple [.Name xa q1, .Name xb q2] k1 q3) [⟨.Tuple [.Name xa pa, .Name xb pb, .Name xc pc] kt pt, iter, [], 0⟩] scope pos) 0 (.ref I) .none cenv).onRaise (leaving cenv)) [] s
  unfold compStart
  rw [Sem.onRaise_eq_wrap]
  refine seg_bind_wrap (wpAny_askSetting ?_)
  split
  · exact seg_again rfl turns
  · exact seg_bind_wrap (wpAny_rule (seg_bind_wrap (wpAny_standAt (seg_bind_wrap ((W₀ _ hA).self 0 s _ _ hst (seg_again rfl turns))))))
/-- the generator object at a, j pairs are out -/
def PxAt (prog : Program) (w : World) (A : Around) (a : Addr) (g : Nat) (C : Addr) (fp wr : List Addr) (n : Nat) (rows : List (Value × Value)) (j : Nat) (s : Shared) : Prop :=
  s.heap.IsGen a g ∧ s.heap.NoLimit ∧ ∃ gs, s.gens[g]? = some gs ∧ ∀ s2 : Shared, (∀ b ∈ C :: fp, ∀ o, s.heap.get? b = some o → s2.heap.get? b = some o) →
    gs.Goes (model prog w) A.in1 (PxEnd C wr) (PxY C fp wr n rows) (n - j) (.send .none) s2
/-- a walk whose items are new objects -/
structure WalksP (prog : Program) (w : World) (A : Around) (a : Addr) (fp wr : List Addr) (G : Array GenState → Array GenState → Prop) (n : Nat) (P : Nat → Value → Heap → Prop) (St : Nat → Shared → Prop) : Prop where
  sub : ∀ b ∈ wr, b ∈ fp
  g1 : ∀ x, G x x
  g2 : ∀ x y z, G x y → G y z → G x z
  later : ∀ i v h h', P i v h → (∀ b o, b ∉ wr → o.cls = .type "tuple" → h.get? b = some o → h'.get? b = some o) → P i v h'
  stay : ∀ i (s : Shared) h' tk, St i s → (∀ b ∈ fp, ∀ o, s.heap.get? b = some o → h'.get? b = some o) → St i { s with heap := h', toks := tk }
  next : ∀ i (s : Shared) (Q : Option Value → Shared → Prop) (E : Value → Shared → Prop), i < n → St i s → (∀ v s', P i v s'.heap → St (i + 1) s' → Moved wr G s s' → Q (some v) s') → wpAny (model prog w) A (pyNext (.ref a)) Q E s
  last : ∀ (s : Shared) (Q : Option Value → Shared → Prop) (E : Value → Shared → Prop), St n s → (∀ s', Moved wr G s s' → Q none s') → wpAny (model prog w) A (pyNext (.ref a)) Q E s
  iter : ∀ i (s : Shared) (Q : Value → Shared → Prop) (E : Value → Shared → Prop), St i s → Q (.ref a) s → wpAny (model prog w) A (pyIter (.ref a)) Q E s
theorem WalksP.up {a : Addr} {fp wr : List Addr} {G : Array GenState → Array GenState → Prop} {n : Nat} {P : Nat → Value → Heap → Prop} {St : Nat → Shared → Prop} (W : WalksP prog w A.in1 a fp wr G n P St) : WalksP prog w A a fp wr G n P St :=
  ⟨W.sub, W.g1, W.g2, W.later, W.stay, fun i s Q E h st q => wpAny_of_in1 (W.next i s Q E h st q), fun s Q E st q => wpAny_of_in1 (W.last s Q E st q), fun i s Q E st q => wpAny_of_in1 (W.iter i s Q E st q)⟩
theorem walks_px (hh : A.handled = none) {a : Addr} {g : Nat} {C : Addr} {fp wr : List Addr} {n : Nat} {rows : List (Value × Value)} (haC : a ≠ C) (haf : a ∉ fp) (hsub : ∀ b ∈ wr, b ∈ fp) (hlow : ∀ b ∈ fp, b < C)
    (hroom : A.depth < recursionLimit) (hcs : cStatics ∈ fp) (hcw : cStatics ∉ wr) :
    WalksP prog w A a (a :: C :: fp) (C :: wr) (GenOnlyQ g) n (PairAt rows C) (PxAt prog w A a g C fp wr n rows) where
  sub := fun b hb => by
    rcases List.mem_cons.mp hb with z | z
    · rw [z]; simp
    · exact List.mem_cons_of_mem _ (List.mem_cons_of_mem _ (hsub b z))
  g1 := fun _ => .inl rfl
  g2 := fun _ _ _ x y => x.trans y
  later := fun i v h h' p k => p.later fun b o lt c e => k b o (fun hb => by
    rcases List.mem_cons.mp hb with z | z
    · rw [z] at lt; exact Nat.lt_irrefl _ lt
    · exact Nat.lt_asymm lt (hlow b (hsub b z))) c e
  stay := fun j s h' tk st hk => by
    obtain ⟨⟨o, nm, qn, ho, r⟩, ⟨mc, hns, hnn⟩, gs, hgs, hgo⟩ := st
    exact ⟨⟨o, nm, qn, hk a List.mem_cons_self o ho, r⟩, ⟨mc, hns.at' fun o e => hk cStatics (List.mem_cons_of_mem _ (List.mem_cons_of_mem _ hcs)) o e, hnn⟩, gs, hgs, fun s2 hal => hgo s2 fun b hb o e => hal b hb o (hk b (List.mem_cons_of_mem _ hb) o e)⟩
  next := fun j s Q E hj st hQ => by
    obtain ⟨hg, hl, gs, hgs, hgo⟩ := st
    obtain ⟨m, hm⟩ : ∃ m, n - j = m + 1 := ⟨n - j - 1, by omega⟩
    rw [hm] at hgo
    refine wpAny_with_toks (Nat.le_refl s.toks) ?_
    refine wpAny_pyNext_genexpQ (P := fun n s₀ s₁ => n = 0 ∧ GenSince C wr s₀ s₁) hh hl hroom hg hgs (hgo _ fun _ _ _ e => e) (fun v s₁ gs' hb hv => ?_) (fun s₁ hp h' hk => absurd hp.1 (Nat.succ_ne_zero m))
    obtain ⟨hP, ⟨h₁, tk₁, rfl, hk₁⟩, hkap⟩ := hv
    have hix : n - 1 - (m + 1 - 1) = j := by omega
    rw [hix] at hP
    have haw : a ∉ wr := fun z => haf (hsub a z)
    have hcC : cStatics ≠ C := fun z => Nat.lt_irrefl _ (z ▸ hlow _ hcs)
    have s1 : ((s.setGen g .running).setGen g gs').gens[g]? = some gs' := setGen_self (gs := .running) (setGen_self hgs)
    intro htk
    refine hQ v _ hP ⟨?_, ?_, gs', s1, fun s2 hal => ?_⟩ ⟨fun b o hb' e => hk₁ b o (fun z => hb' (z ▸ List.mem_cons_self)) (fun z => hb' (List.mem_cons_of_mem _ z)) e, GenOnlyQ.of ((GenOnly.setGen s g .running).trans (GenOnly.setGen _ g gs')) s1 hb, rfl, rfl, htk⟩
    · obtain ⟨o, nm, qn, ho, r⟩ := hg
      exact ⟨o, nm, qn, hk₁ a o haC haw ho, r⟩
    · obtain ⟨mc, hns, hnn⟩ := hl
      exact ⟨mc, hns.at' fun o e => hk₁ cStatics o hcC hcw e, hnn⟩
    · rw [show n - (j + 1) = m by omega]
      exact hkap s2 hal
  last := fun s Q E st hQ => by
    obtain ⟨hg, hl, gs, hgs, hgo⟩ := st
    rw [Nat.sub_self] at hgo
    refine wpAny_with_toks (Nat.le_refl s.toks) ?_
    refine wpAny_pyNext_genexpQ (P := fun n s₀ s₁ => n = 0 ∧ GenSince C wr s₀ s₁) hh hl hroom hg hgs (hgo _ fun _ _ _ e => e) (fun v s₁ gs' hb hv => ?_) (fun s₁ hp h' hk => ?_)
    · obtain ⟨_, _, hkap⟩ := hv
      exact (hkap s₁ fun _ _ _ e => e).elim
    · obtain ⟨_, h₁, tk₁, rfl, hk₁⟩ := hp
      have s1 : ((s.setGen g .running).setGen g .finished).gens[g]? = some .finished := setGen_self (gs := .running) (setGen_self hgs)
      intro htk
      exact hQ _ ⟨fun b o hb' e => hk b o (hk₁ b o (fun z => hb' (z ▸ List.mem_cons_self)) (fun z => hb' (List.mem_cons_of_mem _ z)) e), GenOnlyQ.of ((GenOnly.setGen s g .running).trans (GenOnly.setGen _ g .finished)) s1 rfl, rfl, rfl, htk⟩
  iter := fun _ _ _ _ st hQ => wpAny_pyIter_gen st.1 hQ
/-! ### tuple(..) of such a walk -/
abbrev lstO (acc : Array Value) (c : Nat) : Obj := { cls := .type "list", dict := none, data := .seq acc c, slots := #[] }
def AccP (P : Nat → Value → Heap → Prop) (n : Nat) (acc : Array Value) (h : Heap) : Prop := acc.size = n ∧ ∀ i v, acc[i]? = some v → P i v h
theorem AccP.push {P : Nat → Value → Heap → Prop} {n : Nat} {acc : Array Value} {h : Heap} {x : Value} (p : AccP P n acc h) (hx : P n x h) : AccP P (n + 1) (acc.push x) h := by
  refine ⟨by rw [Array.size_push, p.1], fun i v e => ?_⟩
  rw [Array.getElem?_push] at e
  split at e
  · rename_i z
    rw [z, p.1]
    cases e
    exact hx
  · exact p.2 i v e
variable {a : Addr} {fp wr : List Addr} {G : Array GenState → Array GenState → Prop} {n : Nat} {P : Nat → Value → Heap → Prop} {St : Nat → Shared → Prop}
theorem loop_p (W : WalksP prog w A.in1 a fp wr G n P St) (hn : n ≤ sizeLine) (S : Addr) (hSf : S ∉ fp) (res : Value) {R : Result → Shared → Prop} :
    ∀ (k i : Nat) (s : Shared) (acc : Array Value) (c : Nat), n - i = k → i ≤ n → St i s → s.heap.get? S = some (lstO acc c) → AccP P i acc s.heap →
    (∀ s' acc' c', Moved (S :: wr) G s s' → s'.heap.get? S = some (lstO acc' c') → AccP P n acc' s'.heap → R (.ok (.ret res)) s') →
    codeAny (model prog w) A (.builtin "list.extend.loop" ⟨[.ref S, .ref a, res], []⟩) R s := by
  have hSw : S ∉ wr := fun z => hSf (W.sub _ z)
  have more : ∀ b ∈ wr, b ∈ S :: wr := fun b hb => List.mem_cons_of_mem _ hb
  intro k
  induction k with
  | zero =>
    intro i s acc c hk hi st hS hacc hR
    obtain rfl : i = n := by omega
    refine codeAny_builtin F.entry_extend_loop ?_
    rw [Around.under_plainId F.plain_extend_loop _]
    refine wpAny_bind (m := pyNext (.ref a)) (W.last s _ _ st fun s' hm => wpAny_pure ?_)
    exact hR s' acc c (hm.mono more) (hm.heap S _ hSw hS) ⟨hacc.1, fun j v e => W.later j v _ _ (hacc.2 j v e) fun b o hb _ q => hm.heap b o hb q⟩
  | succ k ih =>
    intro i s acc c hk hi st hS hacc hR
    have hlt : i < n := by omega
    refine codeAny_builtin F.entry_extend_loop ?_
    rw [Around.under_plainId F.plain_extend_loop _]
    refine wpAny_bind (m := pyNext (.ref a)) (W.next i s _ _ hlt st fun v s' hP st' hm => ?_)
    have hS' := hm.heap S _ hSw hS
    have acc1 : AccP P i acc s'.heap := ⟨hacc.1, fun j u e => W.later j u _ _ (hacc.2 j u e) fun b o hb _ q => hm.heap b o hb q⟩
    have upd1 : ∀ b o, b ≠ S → s'.heap.get? b = some o → (s'.heap.update S (Obj.mapSeq (·.push v))).get? b = some o := fun b o hb e => (Heap.get?_update_other _ _ (fun z : S = b => hb z.symm)).trans e
    have tup1 : ∀ b o, b ∉ wr → o.cls = .type "tuple" → s'.heap.get? b = some o → (s'.heap.update S (Obj.mapSeq (·.push v))).get? b = some o := fun b o _ hc e => upd1 b o (fun z => by
      rw [z, hS'] at e
      cases e
      exact absurd hc (by intro q; injection q with q; exact absurd q (by decide))) e
    have acc2 : AccP P (i + 1) (acc.push v) (s'.heap.update S (Obj.mapSeq (·.push v))) :=
      AccP.push ⟨acc1.1, fun j u e => W.later j u _ _ (acc1.2 j u e) tup1⟩ (W.later i v _ _ hP tup1)
    show wpAny _ A.in1 (updateSeq S (·.push v) >>= _) _ _ _
    refine wpAny_bind (wpAny_updateSeq hS' rfl (wpAny_pure ⟨plainId_quiet F.plain_extend_loop _, ?_⟩) (by rw [hacc.1]; omega) (by show (acc.push v).size ≤ sizeLine + 1; rw [Array.size_push, hacc.1]; omega))
    refine ih (i + 1) _ (acc.push v) _ (by omega) hlt (W.stay _ s' _ s'.toks st' fun b hb o e => upd1 b o (fun z => hSf (z ▸ hb)) e) (Heap.get?_update_self _ hS' rfl) acc2 fun s2 acc' c' hm2 hS2 hacc2 => ?_
    refine hR s2 acc' c' (Moved.trans W.g2 ((hm.mono more).then_heap (Nat.le_refl _) fun b o hb e => ?_) hm2) hS2 hacc2
    exact upd1 b o (fun z => hb (z ▸ List.mem_cons_self)) e
end
end Pw
namespace Pw
open PySem PySem.Spec PyProof.Rows L2
open AutoSeq1 (wpAny_loadPart')
section
variable {prog : Program} {w : World} {A : Around} {E : Value → Shared → Prop} {s : Shared}
variable {a : Addr} {fp wr : List Addr} {G : Array GenState → Array GenState → Prop} {n : Nat} {P : Nat → Value → Heap → Prop} {St : Nat → Shared → Prop}
theorem collect_p {Q : List Value → Shared → Prop} (W : WalksP prog w A.in1 a fp wr G n P St) (hT : ∀ i s, St i s → s.TypeIs (.ref a) "generator") (st : St 0 s) (hfp : ∀ b ∈ fp, b < s.heap.objs.size) (ha : a ∈ fp) (hn : n ≤ sizeLine)
    (hQ : ∀ s' acc, Moved wr G s s' → AccP P n acc s'.heap → Q acc.toList s') : wpAny (model prog w) A (collect (.ref a)) Q E s := by
  have hSf : s.heap.objs.size ∉ fp := fun z => Nat.lt_irrefl _ (hfp _ z)
  have hSa : s.heap.objs.size ≠ a := fun z => hSf (z ▸ ha)
  unfold collect
  refine wpAny_bind (wpAny_runValue (codeAny_builtin F.entry_proto_collect ?_))
  rw [Around.under_plainId F.plain_proto_collect _]
  refine wpAny_bind (m := newList []) (wpAny_newObj_type (wpAny_pure ⟨plainId_quiet F.plain_list_iadd _, codeAny_builtin F.entry_list_iadd ?_⟩))
  rw [Around.under_plainId F.plain_list_iadd _]
  have st1 := W.stay 0 s (s.heap.push (lstO ([] : List Value).toArray 0)) s.toks st fun b _ o e => Heap.get?_push_of_some _ e
  show wpAny _ A.in1 (Builtin.List.listExtendWith (.ref s.heap.objs.size) (.ref a) (.ref s.heap.objs.size)) _ _ _
  unfold Builtin.List.listExtendWith
  refine wpAny_bind (wpAny_typeOf (hT 0 _ st1) ?_)
  have f1 : Builtin.List.listSameRef (.ref s.heap.objs.size) (.ref a) = false := by simp [Builtin.List.listSameRef, hSa]
  have f2 : (Value.type "generator" == Value.type "list") = false := by decide
  have f3 : (Value.type "generator" == Value.type "tuple") = false := by decide
  simp only [f1, f2, f3, Bool.or_false, Bool.false_eq_true, if_false]
  refine wpAny_bind (W.iter 0 _ _ _ st1 (wpAny_bind (wpAny_holding ?_)))
  unfold Builtin.List.listLengthHint
  refine wpAny_bind (wpAny_specialOf (hT 0 _ st1) F.gen_no_len ?_)
  refine wpAny_bind (m := specialOf (Value.ref a) (Str.ofString "__length_hint__")) (wpAny_specialOf (hT 0 _ st1) F.gen_no_hint (wpAny_pure ?_))
  refine wpAny_bind (m := rule "list.extend.makes-room") (wpAny_rule ?_)
  have g1 : (s.heap.push (lstO ([] : List Value).toArray 0)).get? s.heap.objs.size = some (lstO ([] : List Value).toArray 0) := Heap.get?_push_size _ rfl
  refine wpAny_bind ?_
  refine wpAny_bind (m := updateSeq s.heap.objs.size (·.push .none)) (wpAny_updateSeq g1 rfl ?_)
  have g2 := Heap.get?_update_self (Obj.mapSeq (·.push Value.none)) g1 rfl
  refine wpAny_updateSeq g2 rfl ?_
  have g3 := Heap.get?_update_self (Obj.mapSeq (·.pop)) g2 rfl
  have oth : ∀ b o, b ≠ s.heap.objs.size → (s.heap.push (lstO ([] : List Value).toArray 0)).get? b = some o →
      (((s.heap.push (lstO ([] : List Value).toArray 0)).update s.heap.objs.size (Obj.mapSeq (·.push Value.none))).update s.heap.objs.size (Obj.mapSeq (·.pop))).get? b = some o :=
    fun b o hb e => (Heap.get?_update_other _ _ (Ne.symm hb)).trans ((Heap.get?_update_other _ _ (Ne.symm hb)).trans e)
  refine wpAny_pure ⟨plainId_quiet F.plain_extend_loop _, loop_p W hn _ hSf _ n 0 _ _ _ rfl (Nat.zero_le _)
    (W.stay 0 ({ s with heap := s.heap.push (lstO ([] : List Value).toArray 0) } : Shared) _ s.toks st1 fun b hb o e => oth b o (fun z => hSf (z ▸ hb)) e) g3 ⟨rfl, fun i v e => by simp at e⟩ fun s' acc' c' hm hS' hacc => ?_⟩
  show wpAny _ A (load s.heap.objs.size >>= _) _ _ s'
  refine wpAny_bind (wpAny_load hS' (wpAny_pure ?_))
  refine hQ s' acc' (Moved.drop_new (o := lstO ([] : List Value).toArray 0) (tk := s.toks) (Moved.trans W.g2 ((Moved.refl W.g1).then_heap (Nat.le_refl _) fun b o hb e => ?_) hm) (Nat.le_refl _)) hacc
  exact oth b o (fun z => hb (z ▸ List.mem_cons_self)) e
theorem tuple_new_p {Q : Value → Shared → Prop} (W : WalksP prog w A.in1.in1 a fp wr G n P St) (hT : ∀ i s, St i s → s.TypeIs (.ref a) "generator") (st : St 0 s) (hfp : ∀ b ∈ fp, b < s.heap.objs.size) (ha : a ∈ fp) (hn : n ≤ sizeLine)
    (hQ : ∀ s' acc, Moved wr G s s' → AccP P n acc s'.heap → Q (.ref s'.heap.objs.size) { s' with heap := s'.heap.push { cls := .type "tuple", data := .seq acc } }) :
    codeAny (model prog w) A (.call (.builtin "tuple.__new__") ⟨[.type "tuple", .ref a], []⟩) (wants Q E) s := by
  refine codeAny_of_tree ?_
  refine wpAny_bind (m := checkBuiltinCall "tuple.__new__" ⟨[.type "tuple", .ref a], []⟩) (wpAny_of_eq (F.newCall_tuple_1 _) (wpAny_pure ⟨plainId_quiet F.plain_tuple_new _, codeAny_builtin F.entry_tuple_new ?_⟩))
  rw [Around.under_plainId F.plain_tuple_new _]
  have hsub := sub_tuple_self
  have hinit := init_tuple_lookup
  have hmh := madeHere_tuple
  have tI := hT 0 s st
  wp_walk using wpAny_typeOf tI, collect_p W hT st hfp ha hn
  intro s' acc hm hacc
  show wpAny _ _ (Builtin.Tuple.tupleExact acc.toList.toArray >>= fun v => ret v) _ _ _
  have e : acc.toList.toArray = acc := by simp
  rw [e]
  unfold Builtin.Tuple.tupleExact
  refine wpAny_bind (wpAny_newObj_type (wpAny_pure ?_) (by show acc.size ≤ sizeLine; rw [hacc.1]; exact hn))
  exact hQ s' acc hm hacc
theorem call_tuple_p {Q : Value → Shared → Prop} (W : WalksP prog w A.in1.in1.in1 a fp wr G n P St) (hT : ∀ i s, St i s → s.TypeIs (.ref a) "generator") (st : St 0 s) (hfp : ∀ b ∈ fp, b < s.heap.objs.size) (ha : a ∈ fp) (hn : n ≤ sizeLine)
    (hQ : ∀ s' acc, Moved wr G s s' → AccP P n acc s'.heap → Q (.ref s'.heap.objs.size) { s' with heap := s'.heap.push { cls := .type "tuple", data := .seq acc } }) :
    wpAny (model prog w) A (call (.type "tuple") [.ref a]) Q E s := by
  refine callType_codes (Q₁ := fun obj s₁ => s₁.TypeIs obj "tuple" ∧ Q obj s₁) F.called_tuple (F.typeCall_tuple_1 _) F.entry_object_init
    (tuple_new_p W hT st hfp ha hn fun s' acc hm hacc => ⟨⟨_, Heap.get?_push_size _ rfl, rfl⟩, hQ s' acc hm hacc⟩) fun obj s₁ h₁ => ?_
  exact ⟨h₁.1, F.args_object_init_2 obj _, object_init_meets F.called_tuple.init.lookup F.called_tuple.made (by decide) prog w A.in1 _ s₁ ⟨h₁.1, rfl, h₁.2⟩⟩
end
end Pw
namespace Pw
open PySem PySem.Spec PyProof.Rows L2
section
variable {X : Cx} {pins : List (Addr × Obj)} {σ : L2.St} {H1 H' : Hp} {s s1 : Shared}
def NewTup (n : Nat) (H : Hp) : Prop := ∀ b, n ≤ b → H b = none ∨ ∃ ys, H b = some (.tup ys)
/-- a tuple that stands there already, made behind s1, is tracked from now on -/
theorem track_one (I1 : Inv X pins σ H1 s1) (J : Inv X pins σ H' s) (hN : NewTup s1.heap.objs.size H') {a : Addr} (ha : s1.heap.objs.size ≤ a) {its : List Value} {xs : List V} (e : IsTup s.heap a its.toArray) (r : Vals xs its) (z : xs.length ≤ sizeLine) :
    ∃ H2, Inv X pins σ H2 s ∧ H2 a = some (.tup xs) ∧ (∀ b o, H' b = some o → H2 b = some o) ∧ NewTup s1.heap.objs.size H2 := by
  rcases hN a ha with n | ⟨ys, y⟩
  · have ne : ∀ {b : Addr}, b < s1.heap.objs.size → b ≠ a := fun h q => by rw [q] at h; exact absurd (Nat.lt_of_lt_of_le h ha) (Nat.lt_irrefl _)
    have old : ∀ b o, H' b = some o → upd H' a (.tup xs) b = some o := fun b o q => by rw [upd_ne (ne_of_none q n)]; exact q
    refine ⟨upd H' a (.tup xs), ⟨J.ok, J.os, J.bare, ⟨J.base.keep, J.base.slot, fun b o q hn hx => ?_, J.base.there, fun b ys q => old b _ (J.base.tups b ys q), fun b o u q => old b _ (J.base.frzs b o u q), fun b ps q => ?_⟩, J.loc, J.cell, ?_, fun x c q => ?_, fun p hp => ?_, fun b u q => ?_, J.len⟩, upd_same, old, fun b hb => ?_⟩
    · have lt : b < s1.heap.objs.size := Nat.lt_of_lt_of_le (Heap.lt_size q) I1.sz
      rw [upd_ne (ne lt)]
      exact J.base.free b o q hn hx
    · obtain ⟨more, m⟩ := J.base.tbls b ps q
      exact ⟨more, old b _ m⟩
    · rw [upd_ne (ne I1.lt)]
      exact J.free
    · obtain ⟨v, q2⟩ := I1.cell x c q
      rw [upd_ne (ne q2.lt)]
      exact J.freeC x c q
    · obtain ⟨g1, g2, g3, g4, g5⟩ := J.pin p hp
      refine ⟨g1, ?_, g3, g4, g5⟩
      rw [upd_ne (ne (Heap.lt_size (I1.pin p hp).1))]
      exact g2
    · by_cases hb : b = a
      · subst hb
        rw [upd_same] at q
        cases q
        exact ⟨z, its, r, e⟩
      · rw [upd_ne hb] at q
        exact (J.hok b u q).stay (fun c v _ k => k) (fun c k => old c _ k) fun c ys k => old c _ k
    · by_cases hb2 : b = a
      · exact .inr ⟨xs, by rw [hb2]; exact upd_same⟩
      · rw [upd_ne hb2]
        exact hN b hb
  · obtain ⟨its', r', e', _⟩ := J.tuple (SqT.of y)
    obtain ⟨o, g, c, n, d⟩ := e
    obtain ⟨o', g', c', n', d'⟩ := e'
    rw [g] at g'
    cases g'
    rw [d] at d'
    injection d' with d1 _
    have e3 : its = its' := by simpa using congrArg Array.toList d1
    subst e3
    exact ⟨H', J, by rw [y, r.inj r'], fun b o q => q, hN⟩
/-- rows of three, and what is taken of each -/
def RowsV (H : Hp) (rs : List V) (ps : List (V × V)) : Prop := Paired (fun (r : V) (p : V × V) => ∃ (t : Addr) (z : V), r = .ref t ∧ H t = some (.tup [p.1, p.2, z])) rs ps
def PairsV (H : Hp) (as : List Addr) (ps : List (V × V)) : Prop := Paired (fun (a : Addr) (p : V × V) => H a = some (.tup [p.1, p.2])) as ps
abbrev RelP (p : V × V) (q : Value × Value) : Prop := RelV p.1 q.1 ∧ RelV p.2 q.2
theorem rows_of (I : Inv X pins σ H' s) : ∀ {rs : List V} {ps : List (V × V)} {its : List Value}, RowsV H' rs ps → Vals rs its → ∃ qs : List (Value × Value), Paired RelP ps qs ∧ qs.length = its.length ∧
    ∀ (i : Nat) (v : Value), its[i]? = some v → ∃ (t : Addr) (x y z : Value), v = .ref t ∧ (∃ u, H' t = some u) ∧ IsTup s.heap t #[x, y, z] ∧ qs[i]? = some (x, y)
  | _, _, _, .nil, .nil => ⟨[], .nil, rfl, fun i v h => by simp at h⟩
  | _, _, _, .cons hp pr, .cons rv rr => by
    obtain ⟨qs, h1, h2, h3⟩ := rows_of I pr rr
    obtain ⟨t, z, rfl, ht⟩ := hp
    obtain ⟨its, rt, tp, _⟩ := I.tuple (SqT.of ht)
    cases rt with
    | cons ra rt =>
      cases rt with
      | cons rb rt =>
        cases rt with
        | cons rc rt =>
          cases rt
          rename_i x y w
          refine ⟨(x, y) :: qs, .cons ⟨ra, rb⟩ h1, congrArg (· + 1) h2, fun i v h => ?_⟩
          cases i with
          | zero =>
            cases h
            exact ⟨t, x, y, w, rv, ⟨_, ht⟩, tp, rfl⟩
          | succ i => exact h3 i v h
theorem pairs_get : ∀ {ps : List (V × V)} {qs : List (Value × Value)} {i : Nat} {q : Value × Value}, Paired RelP ps qs → qs[i]? = some q → ∃ p, ps[i]? = some p ∧ RelP p q
  | _, _, _, _, .nil, h => by simp at h
  | _, _, 0, _, .cons r _, h => by cases h; exact ⟨_, rfl, r⟩
  | _, _, i + 1, _, .cons _ t, h => pairs_get (i := i) t h
/-- all the pairs are tracked -/
theorem track_all (I1 : Inv X pins σ H1 s1) {C : Addr} (hC : s1.heap.objs.size ≤ C) : ∀ (ps : List (V × V)) (qs : List (Value × Value)) (vs : List Value) (H' : Hp), Paired RelP ps qs → Inv X pins σ H' s → NewTup s1.heap.objs.size H' → vs.length = qs.length →
    (∀ i v, vs[i]? = some v → PairAt qs C i v s.heap) → ∃ (H2 : Hp) (as : List Addr), Inv X pins σ H2 s ∧ Vals (as.map V.ref) vs ∧ PairsV H2 as ps ∧ (∀ b o, H' b = some o → H2 b = some o) ∧ NewTup s1.heap.objs.size H2
  | [], _, [], H', .nil, J, hN, _, _ => ⟨H', [], J, .nil, .nil, fun _ _ q => q, hN⟩
  | [], _, _ :: _, _, .nil, _, _, hl, _ => by cases hl
  | p :: ps, q :: qs, [], _, _, _, _, hl, _ => by cases hl
  | p :: ps, q :: qs, v :: vs, H', .cons r rr, J, hN, hl, hP => by
    obtain ⟨a, x, y, rfl, lt, e, g⟩ := hP 0 v rfl
    cases e
    obtain ⟨H3, J3, h3, k3, n3⟩ := track_one (xs := [p.1, p.2]) (its := [x, y]) I1 J hN (Nat.le_of_lt (Nat.lt_of_le_of_lt hC lt)) ⟨_, g, rfl, _, rfl⟩ (.cons r.1 (.cons r.2 .nil)) (by show 2 ≤ sizeLine; decide)
    obtain ⟨H4, as, J4, v4, p4, k4, n4⟩ := track_all I1 hC ps qs vs H3 rr J3 n3 (Nat.succ.inj hl) fun i u hu => by
      obtain ⟨a', x', y', e1, e2, e3, e4⟩ := hP (i + 1) u hu
      exact ⟨a', x', y', e1, e2, e3, e4⟩
    exact ⟨H4, a :: as, J4, .cons rfl v4, .cons (k4 _ _ h3) p4, fun b o z => k4 b o (k3 b o z), n4⟩
/-- the generator's own scope -/
structure GenS3 (env : Env) (scope : Scope) (xa xb xc : Str) : Prop where
  kind : scope.kind = .function
  co : scope.isCoroutine = false
  cell : ∀ y ∈ scope.names, y.2 ≠ .cell
  dot : scope.names.lookup (".0" : Str) = some NameKind.local
  la : scope.names.lookup xa = some .local
  lb : scope.names.lookup xb = some .local
  lc : scope.names.lookup xc = some .local
  ab : xa ≠ xb
  ac : xa ≠ xc
  bc : xb ≠ xc
  da : (xa == ("__debug__" : Str)) = false
  db : (xb == ("__debug__" : Str)) = false
  free : ∀ y ∈ scope.names, y.2 = .free → ∃ c, env.cells.lookup y.1 = some c
def tTupGen (K : PySem.W.Frag) (P : Addr) (te : TE) : TE := fun σ H Q => te σ H fun v H1 => ∃ (l : Addr) (rs : List V) (ps : List (V × V)), v = .ref l ∧ SqL K H1 l rs ∧ RowsV H1 rs ps ∧ rs.length ≤ 100000 ∧ GxR.TabG H1 P ∧
  ∀ (H2 : Hp) (q : Addr) (as : List Addr), PairsV H2 as ps → H2 q = some (.tup (as.map V.ref)) → (∀ b o, b ≠ P → H1 b = some o → H2 b = some o) → GxR.TabG H2 P → Q (.ref q) H2
end
end Pw
namespace Pw
open PySem PySem.Spec PyProof.Rows L2
section
variable {X : Cx}
theorem pe_tupGen {c P : Addr} {iter : Expr} {xa xb xc : Str} {p pos gpos pa pb pc pt q1 q2 q3 : Pos} {kt k1 : Nat} {scope : Scope} {te : TE} {k : Nat}
    (hr : Room k X.A) (TB : GxR.TabB X.base X.mg c P) (hcode : X.env.code = .ref c) (S : GenS3 X.env scope xa xb xc) (hg : Gl X "tuple") (hm : X.mg "tuple" = none) (hi : PE X iter te) (hs : ∀ v, genFold iter X.env v = pure v := by intro _; rfl)
    (na : starEach [.GeneratorExp (.Tuple [.Name xa q1, .Name xb q2] k1 q3) [⟨.Tuple [.Name xa pa, .Name xb pb, .Name xc pc] kt pt, iter, [], 0⟩] scope gpos] X.env =
      (false, eval (.GeneratorExp (.Tuple [.Name xa q1, .Name xb q2] k1 q3) [⟨.Tuple [.Name xa pa, .Name xb pb, .Name xc pc] kt pt, iter, [], 0⟩] scope gpos) X.env) :: starEach [] X.env := by rfl) :
    PE X (.Call (.Name "tuple" p) [.GeneratorExp (.Tuple [.Name xa q1, .Name xb q2] k1 q3) [⟨.Tuple [.Name xa pa, .Name xb pb, .Name xc pc] kt pt, iter, [], 0⟩] scope gpos] [] pos) (tTupGen X.K P te) := by
  refine ⟨fun pins s σ H Q I h => ?_⟩
  refine Call_ (ld_blt I hg hm boot_tuple (PyProof.Rows.callWith_type1 (PyProof.Rows.args_cons ?_ na) na))
  refine wpAny_GeneratorExp_make S.co (closure_ok S.free) S.cell S.dot S.kind (by have := hr.dp; omega) ?_ hs
  refine thn (hi.run pins s σ H _ I h) fun xv s1 ⟨v, H1, I1, r1, qq⟩ => ?_
  obtain ⟨l, rs, ps, rfl, hl, hrows, hlen, ⟨tb, hP, htb⟩, qq⟩ := qq
  obtain rfl : xv = Value.ref l := r1
  obtain ⟨its, rv, pl, hz⟩ := I1.list hl
  obtain ⟨qs, rp, lq, hq⟩ := rows_of I1 hrows rv
  have isl := pl.isList
  refine wpAny_pyIter_list isl ?_
  generalize ho : ({ cls := .type "list_iterator", data := .fields #[.ref l, .int 0 0] } : Obj) = o
  have it2 : (s1.heap.push o).IsListIter s1.heap.objs.size l 0 := by
    subst ho
    exact ⟨_, Heap.get?_push_size _ rfl, rfl, rfl⟩
  have l_lt : l < s1.heap.objs.size := by
    obtain ⟨_, e, _⟩ := _root_.id isl
    exact Heap.lt_size e
  have hPs : s1.heap.get? P = some { cls := .none, data := .fields tb } := I1.hok P _ hP
  have P_lt : P < s1.heap.objs.size := Heap.lt_size hPs
  have hP2 : (s1.heap.push o).get? P = some { cls := .none, data := .fields tb } := Heap.get?_push_of_some _ hPs
  have cd : PySem.W.CodeHd (s1.heap.push o) c P := TB.code.keeps fun b u e => Heap.get?_push_of_some _ (I1.bk b u e)
  have lim2 : (s1.heap.push o).NoLimit := I1.nolimit.push o
  have len_its : its.length = rs.length := rv.length.symm
  have rest : ∀ (code : Value) (h3 : Heap) (tk : Nat) (tb' : Array Value), Heap.ExtBut P (s1.heap.push o) h3 → (s1.heap.push o).objs.size ≤ h3.objs.size → h3.get? P = some { cls := .none, data := .fields tb' } → (∃ more, tb' = tb ++ more) → TriplesOk tb'.toList →
      wpAny (model X.prog X.w) X.A (builtinsFor X.env.globals X.env.builtins) (fun bi s4 => ∀ h' : Heap, h'.Ns s4.heap.objs.size (fun y => if y = ".0" then some (.ref s1.heap.objs.size) else none) → Heap.SameBut s4.heap.objs.size (s4.heap.push { cls := .type "frame", data := .dict #[] }) h' →
        wpAny (model X.prog X.w) X.A (spliced (backTo pos (starEach [] X.env))) (fun us s2 => wpAny (model X.prog X.w) X.A (call (.type "tuple") (Value.ref h'.objs.size :: us)) (EP X pins σ Q) X.xe s2) X.xe { s4 with
          gens := s4.gens.push (.fresh (.compStart (.GeneratorExp (.Tuple [.Name xa q1, .Name xb q2] k1 q3) [⟨.Tuple [.Name xa pa, .Name xb pb, .Name xc pc] kt pt, iter, [], 0⟩] scope gpos) 0 (.ref s1.heap.objs.size) .none (genEnv scope (cloFrom X.env.cells scope.names []) s4.heap.objs.size code bi X.env))),
          toks := s4.toks + 1 + 1 + 1,
          heap := h'.push { cls := .type "generator", data := .fields #[.int s4.gens.size 0, .str "<genexpr>" (s4.toks + 1), .str (X.env.qual ++ "<genexpr>") (s4.toks + 1 + 1)] } }) X.xe { s1 with heap := h3, toks := tk } := by
    intro code h3 tk tb' hx hsz hP3 hmore ht3
    obtain ⟨bm, ob, e1, e2, e3, e4, e5, e6, e7, e8⟩ := TB.bm
    have hcP : cStatics ≠ P := fun e => by
      obtain ⟨_, hns, _⟩ := I1.nolimit
      obtain ⟨o', es, ep, ho', hd, _⟩ := hns
      rw [e, hPs] at ho'
      cases ho'
      cases hd
    have c_lt : cStatics < s1.heap.objs.size := let ⟨_, hns, _⟩ := I1.nolimit; hns.lt
    have sz2 : (s1.heap.push o).objs.size = s1.heap.objs.size + 1 := Heap.size_push ..
    have k3 : ∀ b u, b ≠ P → s1.heap.get? b = some u → h3.get? b = some u := fun b u hb e => hx b u hb (Heap.get?_push_of_some _ e)
    refine wpAny_builtinsFor (m := X.mg) (by rw [I1.ok.glob]; exact ((I1.mod.glob.keeps I1.bk).push o).extBut hx TB.gP) e1 e2 (k3 _ _ e4 (I1.bk _ _ e5)) e6 e7 e8 ?_
    intro h' hn' hs'
    have C_ge : s1.heap.objs.size < h3.objs.size := by omega
    have lP : l ≠ P := fun z => by
      obtain ⟨_, e, hc1, _, hd1⟩ := _root_.id isl
      rw [z, hPs] at e
      cases e
      cases hd1
    have l3 : h3.IsList l its.toArray := by
      obtain ⟨ob, e, r⟩ := _root_.id isl
      exact ⟨ob, k3 _ _ lP e, r⟩
    have it3 : h3.IsListIter s1.heap.objs.size l 0 := it2.at fun u e => hx _ u (Nat.ne_of_gt P_lt) e
    have hsz' : h'.objs.size = h3.objs.size + 1 := by
      rw [hs'.1]
      exact Heap.size_push ..
    have k4 : ∀ b u, h3.get? b = some u → h'.get? b = some u := fun b u e => hs'.extBut b u (Nat.ne_of_lt (Heap.lt_size e)) (Heap.get?_push_of_some _ e)
    generalize hgo : ({ cls := .type "generator", data := .fields #[.int ({ s1 with heap := h3, toks := tk } : Shared).gens.size 0, .str "<genexpr>" (({ s1 with heap := h3, toks := tk } : Shared).toks + 1), .str (X.env.qual ++ "<genexpr>") (({ s1 with heap := h3, toks := tk } : Shared).toks + 1 + 1)] } : Obj) = go
    have k5 : ∀ b u, h3.get? b = some u → (h'.push go).get? b = some u := fun b u e => Heap.get?_push_of_some _ (k4 b u e)
    refine PyProof.Rows.args_nil ?_
    -- the walk over the generator
    have hh : X.A.handled = none := hr.hd
    have ne_l : l ≠ s1.heap.objs.size := Nat.ne_of_lt l_lt
    have W0 : ∀ A' : Around, A'.handled = none → Walks X.prog X.w A' s1.heap.objs.size (List.range h3.objs.size) [s1.heap.objs.size] its.toArray.size (fun i v => its.toArray[i]? = some v) (fun i h => h.IsListIter s1.heap.objs.size l i ∧ h.IsList l its.toArray) := fun A' hA =>
      (Walks.list hA _ _ ne_l _).mono_fp fun b hb => by
        rcases List.mem_cons.mp hb with z | z
        · rw [z]; exact List.mem_range.mpr C_ge
        · rcases List.mem_cons.mp z with z | z
          · rw [z]; exact List.mem_range.mpr (Nat.lt_trans l_lt C_ge)
          · cases z
    have hsub : ∀ b ∈ [s1.heap.objs.size], b ∈ List.range h3.objs.size := fun b hb => by
      rw [List.mem_singleton.mp hb]
      exact List.mem_range.mpr C_ge
    have a_ne : h'.objs.size ≠ h3.objs.size := by omega
    have a_nf : h'.objs.size ∉ List.range h3.objs.size := fun z => by have := List.mem_range.mp z; omega
    have W4 := walks_px (prog := X.prog) (w := X.w) (A := X.A.in4) hh (a := h'.objs.size) (g := s1.gens.size) (C := h3.objs.size) (fp := List.range h3.objs.size) (wr := [s1.heap.objs.size]) (n := its.toArray.size) (rows := qs) a_ne a_nf hsub (fun b hb => List.mem_range.mp hb)
      (by have := hr.dp; exact Nat.lt_of_le_of_lt (Nat.le_refl _) (show X.A.depth < recursionLimit by omega)) (List.mem_range.mpr (Nat.lt_trans c_lt C_ge)) (fun z => Nat.ne_of_lt c_lt (List.mem_singleton.mp z))
    have W3 : WalksP X.prog X.w X.A.in1.in1.in1 h'.objs.size (h'.objs.size :: h3.objs.size :: List.range h3.objs.size) (h3.objs.size :: [s1.heap.objs.size]) (GenOnlyQ s1.gens.size) its.toArray.size (PairAt qs h3.objs.size) (PxAt X.prog X.w X.A.in4 h'.objs.size s1.gens.size h3.objs.size (List.range h3.objs.size) [s1.heap.objs.size] its.toArray.size qs) := WalksP.up (A := X.A.in1.in1.in1) W4
    have NA : NamesAt (genEnv scope (cloFrom X.env.cells scope.names []) h3.objs.size code builtinsNs X.env) xa xb xc := ⟨S.la, S.lb, S.lc, S.ab, S.ac, S.bc, S.kind, S.co, S.da, S.db⟩
    have RA : RowsAt its.toArray qs (List.range h3.objs.size) [s1.heap.objs.size] (h'.push go) := ⟨fun i v hv => by
      obtain ⟨t, x, y, z, rfl, ⟨u, hu⟩, tp, e⟩ := hq i v (by simpa using hv)
      have t_lt : t < s1.heap.objs.size := I1.hok.lt hu
      have tP : t ≠ P := fun z' => by
        obtain ⟨o', g, c', _⟩ := tp
        rw [z', hPs] at g
        cases g
        cases c'
      refine ⟨t, x, y, z, rfl, List.mem_range.mpr (Nat.lt_trans t_lt C_ge), fun z' => Nat.ne_of_lt t_lt (List.mem_singleton.mp z'), ?_, e⟩
      obtain ⟨o', g, r⟩ := tp
      exact ⟨o', k5 _ _ (k3 _ _ tP g), r⟩⟩
    have st0 : PxAt X.prog X.w X.A.in4 h'.objs.size s1.gens.size h3.objs.size (List.range h3.objs.size) [s1.heap.objs.size] its.toArray.size qs 0
        { s1 with
          gens := s1.gens.push (.fresh (.compStart (.GeneratorExp (.Tuple [.Name xa q1, .Name xb q2] k1 q3) [⟨.Tuple [.Name xa pa, .Name xb pb, .Name xc pc] kt pt, iter, [], 0⟩] scope gpos) 0 (.ref s1.heap.objs.size) .none (genEnv scope (cloFrom X.env.cells scope.names []) h3.objs.size code builtinsNs X.env))),
          toks := tk + 1 + 1 + 1
          heap := h'.push go } := by
      refine ⟨?_, ((lim2.extBut hx hcP).keeps k5), _, Array.getElem?_push_size .., fun s2 hal => ⟨rfl, ?_⟩⟩
      · subst hgo
        exact ⟨_, _, _, Heap.get?_push_size _ rfl, rfl, rfl, rfl⟩
      · refine seg_pairs0 (A := X.A.in4.in1) (cenv := genEnv scope (cloFrom X.env.cells scope.names []) h3.objs.size code builtinsNs X.env) (m := fun y => if y = ".0" then some (.ref s1.heap.objs.size) else none) hh W0 (h'.push go) NA RA (fun i h q => ?_) (fun z => Nat.lt_irrefl _ (List.mem_range.mp z)) s2 s2 ?_ ?_ (GenSince.refl _ _ _) fun b hb _ ob e => hal b (List.mem_cons_of_mem _ hb) ob e
        · obtain ⟨⟨oI, g, c', d'⟩, _⟩ := q
          exact ⟨oI, _, g, c', d'⟩
        · refine (W0 X.A hh).frame _ _ _ (⟨it3.at fun u e => k5 _ u e, ?_⟩ : (h'.push go).IsListIter s1.heap.objs.size l 0 ∧ (h'.push go).IsList l its.toArray) fun b hb ob e => hal b (List.mem_cons_of_mem _ hb) ob e
          obtain ⟨ob, e, r⟩ := l3
          exact ⟨ob, k5 _ _ e, r⟩
        · exact (hn'.push go).at' fun ob e => hal _ List.mem_cons_self ob e
    refine call_tuple_p W3 (fun i s9 q => q.1.typeIs) st0 (fun b hb => ?_) List.mem_cons_self (by simp only [List.size_toArray]; rw [len_its]; exact Nat.le_trans hlen (by decide)) fun s' acc hmv hacc => ?_
    · show b < (h'.push go).objs.size
      rw [Heap.size_push]
      rcases List.mem_cons.mp hb with z | z
      · rw [z]; exact Nat.lt_succ_self _
      · rcases List.mem_cons.mp z with z | z
        · rw [z, hsz']; exact Nat.lt_succ_of_lt (Nat.lt_succ_self _)
        · have lt : b < h3.objs.size := List.mem_range.mp z
          rw [hsz']; exact Nat.lt_succ_of_lt (Nat.lt_succ_of_lt lt)
    · -- behind it
      obtain ⟨more, em⟩ := hmore
      have nwr : ∀ b u, s1.heap.get? b = some u → b ∉ h3.objs.size :: [s1.heap.objs.size] := fun b u e hb => by
        have lt := Heap.lt_size e
        rcases List.mem_cons.mp hb with z | z
        · rw [z] at lt; exact Nat.lt_asymm lt C_ge
        · rw [List.mem_singleton.mp z] at lt; exact Nat.lt_irrefl _ lt
      have bare : AllBare s'.gens := AllBare.movedS (I1.bare.push rfl) hmv
      have J := GxR.inv_tab (more := more) (h' := s'.heap) (g' := s'.gens) (d' := s'.drawn) (t' := s'.toks) I1 hP (fun b u hb e => hmv.heap b u (nwr b u e) (k5 b u (k3 b u hb e))) (by rw [← em]; exact hmv.heap P _ (nwr P _ hPs) (k5 P _ hP3)) bare
      rw [GxR.sh_eta s1 s' hmv.os] at J
      have nt0 : NewTup s1.heap.objs.size (upd H1 P (.tbl (tb ++ more))) := fun b hb => .inl (by
        rw [upd_ne (fun z => by rw [z] at hb; exact absurd (Nat.lt_of_lt_of_le P_lt hb) (Nat.lt_irrefl _))]
        exact I1.hok.fresh hb)
      have hal : acc.toList.length = qs.length := by
        rw [Array.length_toList, hacc.1, List.size_toArray]
        exact lq.symm
      obtain ⟨H2, as, J2, va, pp, kk, _⟩ := track_all I1 (Nat.le_of_lt C_ge) ps qs acc.toList _ rp J nt0 hal fun i v e => hacc.2 i v (by simpa using e)
      have hf : H2 s'.heap.objs.size = none := J2.hok.fresh (Nat.le_refl _)
      have J3 : Inv X pins σ (upd H2 s'.heap.objs.size (.tup (as.map V.ref))) { s' with heap := s'.heap.push { cls := .type "tuple", data := .seq acc } } :=
        J2.laid (t' := s'.toks) (fun b u e => Heap.get?_push_of_some _ e) (Nat.le_refl _) (show ObjOk X.prog X.w _ _ _ (.tup (as.map V.ref)) from ⟨by
          rw [va.length, Array.length_toList, hacc.1, List.size_toArray, len_its]
          exact Nat.le_trans hlen (by decide), acc.toList, va, ⟨_, Heap.get?_push_size _ rfl, rfl, 0, (by show Data.seq acc 0 = Data.seq acc.toList.toArray 0; rw [Array.toArray_toList])⟩⟩)
      have kp : ∀ b o', H2 b = some o' → upd H2 s'.heap.objs.size (.tup (as.map V.ref)) b = some o' := fun b o' e => by rw [upd_ne (ne_of_none e hf)]; exact e
      refine ⟨V.ref s'.heap.objs.size, _, J3, rfl, qq _ _ as ?_ upd_same (fun b o' hb e => kp b o' (kk b o' (by rw [upd_ne hb]; exact e))) ⟨tb ++ more, kp P _ (kk P _ upd_same), by rw [← em]; exact ht3⟩⟩
      exact Paired.mapP pp fun a p e => kp a _ e
  refine ⟨lim2, ?_⟩
  cases hf : codeAmong gpos tb.toList with
  | none =>
    refine wpAny_genexprCodeX hcode (cd.code hP2 htb) (cd.tab hP2) hf fun c' h3 tk hx hge hlt hco' _ htab' _ => ?_
    obtain ⟨o1, vs, f1, tf, fl, tg, inF, tx, tt, op, _, _, _, _, _, _, _, _, _, htr, _⟩ := hco'
    exact rest _ h3 tk _ hx (Nat.le_trans hge (Nat.le_of_lt hlt)) htab'.2 ⟨_, rfl⟩ htr
  | some cv =>
    refine wpAny_genexprCode_hit hcode (cd.code hP2 htb) hf ?_
    exact rest cv (s1.heap.push o) s1.toks tb (Heap.ExtBut.refl _ _) (Nat.le_refl _) hP2 ⟨#[], by simp⟩ htb
end
end Pw
namespace Pw
open PySem PySem.Spec PyProof.Rows L2
/-! ### a def with its own code object -/
def CodeAt (K : PySem.W.Frag) (x : Str) (st : Stmt) (f : Addr) (fd : FuncData) (c : Addr) : Prop :=
  ∃ (oc kV doc pm ct : Value) (od an : Option Addr) (osl : Array (Option Value)), fd = PySem.W.fnOf x x (defArgs st) (defBody st) (defScope st) .none kV doc pm an (.ref c) ct ∧ K.lookup f = some ⟨oc, od, .func fd, osl⟩ ∧ PySem.W.codeIn K (.ref c) x = true ∧ PySem.W.keepIn K (.ref f) = true
theorem CodeAt.plain {K : PySem.W.Frag} {x : Str} {st : Stmt} {f c : Addr} {fd : FuncData} (C : CodeAt K x st f fd c) : Fun K x x st f fd := by
  obtain ⟨oc, kV, doc, pm, ct, od, an, osl, e, lk, hcd, kp⟩ := C
  exact ⟨⟨oc, od, kV, doc, pm, an, _, ct, osl, e, lk, hcd⟩, kp⟩
theorem CodeAt.ok {P : Program} {w : World} {K : PySem.W.Frag} {mg : Str → Option Value} {base : Heap} {x : Str} {st : Stmt} {f c : Addr} {fd : FuncData} {N ps : List Str} {k : Nat} {sp : Sp} (C : CodeAt K x st f fd c) (S : FnScope N ps (defScope st))
    (hlen : ∀ vs H Q E, sp vs H Q E → vs.length = ps.length)
    (hb : ∀ (A : Around) (outer : List Env) (s : Shared) (H : Hp) (vs : List V) (Q : VK) (E : XK), Room k (A.deeper (envOfC x (defScope st) s.heap.objs.size f (.ref c))) → sp vs H Q E →
      ∃ t, PSs (cxOf CX0 P w K mg base N x (defScope st) f (.ref c) A outer s H E).nox (defBody st) t ∧ t { nx := fun _ H' => Q .non H', rt := Q } (start N vs) H) : FnOk P w K mg base CX0 (k + 1) f fd ps sp := by
  obtain ⟨oc, kV, doc, pm, ct, od, an, osl, rfl, lk, hcd, _⟩ := C
  refine fn_of lk hcd S hlen fun A outer s H vs Q E hr hsp => ?_
  obtain ⟨t, h, q⟩ := hb A outer s H vs Q E hr hsp
  exact ⟨t, h.nox, q⟩
/-! ### the end, with the table of one def -/
def TabAt (K : PySem.W.Frag) (f : Addr) (h : Heap) : Prop := ∀ (c P : Addr) (o : Obj) (fd : FuncData) (e : Value) (dd : Option Addr) (vs : Array Value) (sl : Array (Option Value)),
  K.lookup f = some o → o.data = .func fd → fd.code = .ref c → K.lookup c = some ⟨e, dd, .fields vs, sl⟩ → vs[11]? = some (.ref P) → h.get? P = some { cls := .none, data := .fields #[] } ∧ PySem.W.CodeHd h c P
theorem walk_tab {l : PySem.W.OpenLaw} {n k : Nat} {q : Program} {loose : List Str} {XP : (Str → Option Value) → Heap → Prop} {YP : World → Heap → Prop} {d : DefRec} {K : Params → PySem.W.Frag} {x nm : Str}
    (hn : l.most = some n) (hn2 : n ≤ sizeLine) (hdf : d.params.defaults = []) (hr : Room k callerA) (hrec : ((recsOf q).any fun e => e.name == nm) = true) (hY : ∀ (w : World) (h : Heap), YP w h → (K w.params).In h)
    (F : ∀ (w : World) (mg : Str → Option Value) (fa f : Addr) (h : Heap), (K w.params).In h → h.Ns mainGlobals mg → mg d.name = some (.ref fa) → mg nm = some (.ref f) → TabAt (K w.params) f h → LamX.LawAtS l w (K w.params) CX0 k n x mg fa h) :
    PySem.W.WalkO q loose XP YP l.row.toRowW d [] (fun f vs => PySem.call f vs) := by
  refine Att.attach_callB hn hdf fun w s0 s1 mg mb fa o pm cd doc a vs ns G Y ho hd hcd hmg hobj hints hlen hbits hg => ?_
  have KX := hY w _ Y
  obtain ⟨e, em, en⟩ := List.any_eq_true.mp hrec
  obtain ⟨f, o', fd', c', P', h1, h2, h3, h4, h5, h6⟩ := G.T.tab e em
  rw [beq_iff_eq.mp en] at h1
  have own : TabAt (K w.params) f s1.heap := by
    intro c P o1 fd1 ee dd vs1 sl k1 k2 k3 k4 k5
    have g1 := KX _ _ k1
    rw [h2] at g1
    cases g1
    rw [h3] at k2
    cases k2
    rw [h4] at k3
    cases k3
    have cd := PySem.W.CodeHd.of h5 h6
    obtain ⟨⟨oc, vc, e1, e2, e3, e4⟩, hP⟩ := h6
    have g2 := KX _ _ k4
    rw [e1] at g2
    cases g2
    cases e3
    rw [e4] at k5
    cases k5
    exact ⟨hP, cd⟩
  obtain ⟨fd, cs, sp, hT, nT, C, hb, hsp, hF⟩ := F w mg fa f _ KX G.T.g hmg h1 own
  exact LamX.law_callTs KX G.T.g G.T.b G.T.builtins G.T.nolimit hg hT nT C G.T.bmain hobj hints (Nat.le_trans hlen hn2) hr hF hb (fun H hH hS => hsp H a ns hlen hbits hH hS) fun H e s' z => z
theorem no_free {l : List (Str × NameKind)} (h : (l.all fun y => decide (y.2 ≠ .free)) = true) : ∀ y ∈ l, y.2 ≠ .free := fun y hy => of_decide_eq_true (List.all_eq_true.mp h y hy)
/-! ### the table in the tracked heap -/
theorem TabG.oth {H H' : Hp} {P : Addr} {S : List Addr} (h : GxR.TabG H P) (o : Oth S H H') (hP : P ∉ S) : GxR.TabG H' P := by
  obtain ⟨ps, e, t⟩ := h
  exact ⟨ps, o.keep P _ hP e, t⟩
def pairsT (rows : List Rw) : T := .tup (rows.map fun r => .tup [.tup (r.place.map .int), r.tp.toT])
/-- templates(contents): P is the table of its code object -/
def spTemplates (P : Addr) : Sp := fun vs H Q _ => ∃ (ts : List Tp) (v : V), vs = [v] ∧ IsT H (.tup (Tp.toTs ts)) v ∧ Tp.deps ts < 12 ∧ Tp.cnts ts ≤ 5000 ∧ GxR.TabG H P ∧
  ∀ (r : V) (H' : Hp), IsT H' (pairsT (Tp.lst [] 0 [] ts)) r → Oth [P] H H' → GxR.TabG H' P → Q r H'
theorem rows_split {H : Hp} : ∀ {rows : List Rw} {vs : List V}, RowsT H rows vs → ∃ ps : List (V × V), RowsV H vs ps ∧ Paired (fun (r : Rw) (p : V × V) => IsT H (.tup (r.place.map .int)) p.1 ∧ IsT H r.tp.toT p.2) rows ps
  | _, _, .nil => ⟨[], .nil, .nil⟩
  | _, _, .cons h t => by
    obtain ⟨ps, a, b⟩ := rows_split t
    obtain ⟨ad, x, y, z, rfl, e, p, q, s⟩ := IsT.inv3 h
    exact ⟨(x, y) :: ps, .cons ⟨ad, z, rfl, e⟩ a, .cons ⟨p, q⟩ b⟩
theorem pairs_join {H H2 : Hp} {S : List Addr} (o : Oth S H H2) : ∀ {rows : List Rw} {ps : List (V × V)} {as : List Addr}, Paired (fun (r : Rw) (p : V × V) => IsT H (.tup (r.place.map .int)) p.1 ∧ IsT H r.tp.toT p.2) rows ps → PairsV H2 as ps →
    Paired (IsT H2) (rows.map fun r => T.tup [.tup (r.place.map .int), r.tp.toT]) (as.map V.ref)
  | _, _, _, .nil, .nil => .nil
  | _, _, _, .cons h t, .cons e u => .cons (.mk2 e (h.1.oth o) (h.2.oth o)) (pairs_join o t u)
end Pw
namespace Pw
open PySem PySem.Spec PyProof.Rows L2
def topS (i : Nat) : Stmt := PySem.Challenge.pw_pagewake_k51_operations_on_a_tree.main.body.getD i (.Pass ⟨0, 0, 0, 0⟩)
abbrev sCell : Stmt := topS 7
abbrev sDigits : Stmt := topS 8
abbrev sDraw : Stmt := topS 10
theorem scCell : FnScope ["script", "k"] ["script", "k"] (defScope sCell) := ⟨rfl, rfl, rfl, by decide +kernel, rfl, by decide +kernel, by decide +kernel⟩
theorem scDigits : FnScope ["script", "first", "last", "digits", "k", "cell", "turn", "seed"] ["script", "first", "last"] (defScope sDigits) := ⟨rfl, rfl, rfl, by decide +kernel, rfl, by decide +kernel, by decide +kernel⟩
theorem scDraw : FnScope ["box", "many", "at"] ["box", "many"] (defScope sDraw) := ⟨rfl, rfl, rfl, by decide +kernel, rfl, by decide +kernel, by decide +kernel⟩
section
variable {P : Program} {w : World} {K : PySem.W.Frag} {mg : Str → Option Value} {base : Heap}
theorem ok_cell {f : Addr} {fd : FuncData} {k : Nat} (F : Fun K "_law_cell" "_law_cell" sCell f fd) (ml : mg "len" = none) : FnOk P w K mg base CX0 (k + 1) f fd ["script", "k"] (spCell' K) := by
  refine F.ok scCell (fun vs H Q E h => ?_) (fun cdv A outer s H vs Q E hr h => ?_)
  · obtain ⟨a, xs, i, rfl, _⟩ := h
    rfl
  obtain ⟨a, ns, i, rfl, hS, q⟩ := h
  refine ⟨_, pss_cons (ps_if (pt_cmpR op_lt (pv 1) (pe_callB call_len_seq (by rfl) ml PySem.boot_len (pa_cons (pv 0) pa_nil)) (nomark _)) (pss_one (ps_ret (pe_ix ix_list (pv 0) (pv 1) (fun _ _ => rfl)))) pss_nil)
    (pss_one (ps_ret pe_int)), ?_⟩
  refine ⟨_, rfl, _, rfl, a, _, rfl, .inl hS, _, _, rfl, rfl, _, rfl, ite2 (fun c => ?_) (fun c => ?_)⟩
  · have c' : (i : Int) < (((ns.map V.int).length : Nat) : Int) := of_decide_eq_true c
    have c2 : i < (ns.map V.int).length := by omega
    rw [List.length_map] at c2
    have g : (ns.map V.int)[i]? = some (.int ns[i]) := by rw [List.getElem?_map, List.getElem?_eq_getElem c2]; rfl
    exact ⟨_, rfl, _, rfl, a, _, _, _, rfl, rfl, hS, atI_nat g, q _⟩
  · exact q 0
theorem ok_draw {f : Addr} {fd : FuncData} {k : Nat} (F : Fun K "_law_draw" "_law_draw" sDraw f fd) (ml : mg "len" = none) (mi : mg "int" = none) : FnOk P w K mg base CX0 (k + 1) f fd ["box", "many"] spDraw := by
  refine F.ok scDraw (fun vs H Q E h => ?_) (fun cdv A outer s H vs Q E hr h => ?_)
  · obtain ⟨b, d, m, rest, rfl, _⟩ := h
    rfl
  obtain ⟨b, d, m, rest, rfl, hm, ⟨ds, at', hb, hd⟩, q⟩ := h
  have nd := scDraw.nd
  have i0 : ∀ (xs : List V) (x : V), atI (x :: xs) 0 = some x := fun xs x => atI_nat (j := 0) rfl
  have i1 : ∀ (xs : List V) (x y : V), atI (x :: y :: xs) 1 = some y := fun xs x y => atI_nat (j := 1) rfl
  refine ⟨_, pss_cons (ps_set (i := 2) nd rfl (.inl rfl) (pe_ix ix_list (pv 0) pe_int (fun _ _ => rfl)))
    (pss_cons (ps_asg (pe_op op_add (pv 2) pe_int) (pg_sub (pv 0) pe_int set_list))
    (pss_cons (ps_if (pt_cmpR op_lt (pv 2) (pe_callB call_len_seq (by rfl) ml PySem.boot_len (pa_cons (pe_ix ix_list (pv 0) pe_int (fun _ _ => rfl)) pa_nil)) (nomark _))
        (pss_one (ps_ret (pe_op op_mod (pe_callTy call_int1 (by rfl) mi bo_int (pa_cons (pe_ix ix_list (pe_ix ix_list (pv 0) pe_int (fun _ _ => rfl)) (pv 2) (fun _ _ => rfl)) pa_nil)) (pv 1)))) pss_nil)
      (pss_one (ps_ret pe_int)))), ?_⟩
  refine ⟨_, rfl, b, _, _, _, rfl, rfl, SqL.of hb, i1 _ _ _, ?_⟩
  refine ⟨_, rfl, _, _, rfl, rfl, _, rfl, b, _, 1, 1, rfl, rfl, hb, ?_, ?_⟩
  · show (if (0 : Int) ≤ 1 then (if (1 : Int) < ((rest.length + 1 + 1 : Nat) : Int) then some (1 : Int).toNat else none) else _) = some 1
    rw [if_pos (by decide), if_pos (by omega)]
    rfl
  have dne : d ≠ b := by
    intro e
    rw [e, hb] at hd
    cases ds with
    | nil => cases hd
    | cons x r => cases hd
  have hb' : upd H b (.lst (.ref d :: .int ((at' : Int) + 1) :: rest)) b = some (.lst (.ref d :: .int ((at' : Int) + 1) :: rest)) := upd_same
  have hd' : upd H b (.lst (.ref d :: .int ((at' : Int) + 1) :: rest)) d = some (.lst (ds.map V.int)) := by rw [upd_ne dne]; exact hd
  have o1 : Oth [b] H (upd H b (.lst (.ref d :: .int ((at' : Int) + 1) :: rest))) := Oth.put (by simp) hb
  have bx : Box (upd H b (.lst (.ref d :: .int ((at' : Int) + 1) :: rest))) b d rest := ⟨ds, at' + 1, by rw [hb']; rfl, hd'⟩
  refine ⟨_, rfl, _, rfl, b, _, _, _, rfl, rfl, SqL.of hb', i0 _ _, d, _, rfl, .inl (SqL.of hd'), _, _, rfl, rfl, _, rfl, ite2 (fun c => ?_) (fun c => ?_)⟩
  · have c' : (at' : Int) < (((ds.map V.int).length : Nat) : Int) := of_decide_eq_true c
    have c2 : at' < (ds.map V.int).length := by omega
    rw [List.length_map] at c2
    have g : (ds.map V.int)[at']? = some (.int ds[at']) := by rw [List.getElem?_map, List.getElem?_eq_getElem c2]; rfl
    refine ⟨_, rfl, b, _, _, _, rfl, rfl, SqL.of hb', i0 _ _, _, rfl, d, _, _, _, rfl, rfl, SqL.of hd', atI_nat g, .inl ⟨_, rfl, _, rfl, _, _, rfl, rfl, hm, ?_⟩⟩
    exact q _ _ (Int.emod_nonneg _ (by omega)) (Int.emod_lt_of_pos _ hm) bx o1
  · exact q 0 _ (by omega) hm bx o1
theorem ok_digits {f g : Addr} {fd gd : FuncData} {k : Nat} (F : Fun K "_law_digits" "_law_digits" sDigits f fd) (GC : FnOk P w K mg base CX0 k g gd ["script", "k"] (spCell' K)) (bC : Binds K gd ["script", "k"] []) (kC : PySem.W.keepIn K (.ref g) = true) (mC : mg "_law_cell" = some (.ref g))
    (m_range : mg "range" = none) (m_int : mg "int" = none) : FnOk P w K mg base CX0 (k + 1) f fd ["script", "first", "last"] (spDigits K) := by
  refine F.ok scDigits (fun vs H Q E h => ?_) (fun cdv A outer s H vs Q E hr h => ?_)
  · obtain ⟨a, ns, i, j, rfl, _⟩ := h
    rfl
  obtain ⟨a, ns, i0, j0, rfl, hS, hi0, hj0, q⟩ := h
  have nd := scDigits.nd
  refine ⟨_, (pss_cons (ps_set (i := 3) nd rfl (.inl rfl) (pe_lst pa_nil))
  (pss_cons (ps_for PassesOwn.never rfl (pi_range2 (by rfl) m_range (pa_cons (pv 1) (pa_cons (pv 2) pa_nil))) (pg_name (i := 4) nd rfl (.inl rfl))
  (pss_cons (ps_set (i := 5) nd rfl (.inl rfl) (pe_call GC hr rfl mC kC bC .nil pass0 (pa_cons (pv 0) (pa_cons (pv 4) pa_nil))))
  (pss_cut (ps_if (pt_cmpR op_lt (pv 5) pe_int (nomark _))
  (pss_one (ps_set (i := 5) nd rfl (.inl rfl) (pe_op op_sub pe_int (pe_op op_mul pe_int (pv 5)))))
  pss_nil)
  (pss_one (ps_if (pt_cmpR op_ge (pv 5) (pe_op op_pow pe_int pe_int) (nomark _))
  (pss_one (ps_for PassesOwn.never rfl (pi_range1 (by rfl) m_range (pa_cons pe_int pa_nil)) (pg_name (i := 6) nd rfl (.inl rfl))
  (pss_one (ps_if (pt_cmpR op_gt (pv 5) pe_int (nomark _))
  (pss_cons (ps_expr (pe_bm PySem.F.plainAttrs_list PySem.F.slot_list_append PySem.F.type_list_append mt_append (pv 3) (pa_cons (pe_op op_mod (pe_callTy call_int1 (by rfl) m_int bo_int (pa_cons (pv 5) pa_nil)) pe_int) pa_nil)))
  (pss_one (ps_set (i := 5) nd rfl (.inl rfl) (pe_op op_fdiv (pv 5) pe_int))))
  pss_nil))))
  (pss_cons (ps_set (i := 7) nd rfl (.inl rfl) (pe_op op_mod (pe_callTy call_int1 (by rfl) m_int bo_int (pa_cons (pe_op op_add (pe_op op_add (pe_op op_mul (pv 5) pe_int) (pe_op op_mul (pv 4) pe_int)) pe_int) pa_nil)) pe_int))
  (pss_one (ps_for PassesOwn.never rfl (pi_range1 (by rfl) m_range (pa_cons pe_int pa_nil)) (pg_name (i := 6) nd rfl (.inl rfl))
  (pss_cons (ps_set (i := 7) nd rfl (.inl rfl) (pe_op op_mod (pe_callTy call_int1 (by rfl) m_int bo_int (pa_cons (pe_op op_add (pe_op op_add (pe_op op_mul (pv 7) pe_int) (pe_op op_mul pe_int (pv 6))) pe_int) pa_nil)) pe_int))
  (pss_one (ps_expr (pe_bm PySem.F.plainAttrs_list PySem.F.slot_list_append PySem.F.type_list_append mt_append (pv 3) (pa_cons (pe_op op_mod (pe_callTy call_int1 (by rfl) m_int bo_int (pa_cons (pe_op op_fdiv (pv 7) pe_int) pa_nil)) pe_int) pa_nil)))))))))))))
  (pss_one (ps_ret (pv 3))))), ?_⟩
  refine ⟨Nat.zero_le _, fun p hp => ?_⟩
  refine ⟨_, rfl, _, rfl, (i0 : Int), (j0 : Int), rfl, ⟨by omega, by omega, by omega, by omega⟩, for_range (lo := (i0 : Int)) (n := ((j0 : Int) - (i0 : Int)).toNat)
    (fun i σ H1 => ∃ (x4 x5 x6 x7 : Option V) (ds : List Int), σ = [some (.ref a), some (.int (i0 : Int)), some (.int (j0 : Int)), some (.ref p), x4, x5, x6, x7] ∧ Oth [] H H1 ∧ H1 p = some (.lst (ds.map V.int)) ∧ ds.length ≤ 60 * i)
    ⟨none, none, none, none, [], rfl, Oth.new hp, upd_same, Nat.zero_le _⟩ (fun i σ H1 hi hW => ?_) (fun σ H1 hW => ?_)⟩
  · obtain ⟨x4, x5, x6, x7, ds, rfl, o1, hp1, hds⟩ := hW
    have hi2 : i < 100 := by omega
    refine ⟨_, rfl, _, rfl, a, ns, i0 + i, rfl, o1.sqL (by simp) hS, fun x => ?_⟩
    refine ⟨fun σ2 H2 => H2 = H1 ∧ ∃ c : Int, 0 ≤ c ∧ σ2 = [some (.ref a), some (.int (i0 : Int)), some (.int (j0 : Int)), some (.ref p), some (.int ((i0 : Int) + (i : Int))), some (.int c), x6, x7], ?_, ?_⟩
    · refine ⟨_, rfl, _, _, rfl, rfl, _, rfl, ite2 (fun c => ?_) (fun c => ?_)⟩
      · have c' : x < 0 := of_decide_eq_true c
        exact ⟨_, rfl, _, _, rfl, rfl, .inl ⟨by decide, by decide⟩, _, _, rfl, rfl, rfl, _, by omega, rfl⟩
      · have c' : ¬ x < 0 := of_decide_eq_false (Bool.eq_false_iff.mpr c)
        exact ⟨rfl, x, by omega, rfl⟩
    · rintro σ2 H2 ⟨rfl, c, hc, rfl⟩
      refine ⟨_, rfl, _, _, rfl, rfl, ⟨by decide, by decide, by decide⟩, _, _, rfl, rfl, _, rfl, ite2 (fun y => ?_) (fun y => ?_)⟩
      · refine ⟨60, rfl, by decide, by decide, for_range (lo := 0) (n := 60)
          (fun j σ H3 => ∃ (x6 : Option V) (c : Int) (ds : List Int), σ = [some (.ref a), some (.int (i0 : Int)), some (.int (j0 : Int)), some (.ref p), some (.int ((i0 : Int) + (i : Int))), some (.int c), x6, x7] ∧ Oth [] H H3 ∧ H3 p = some (.lst (ds.map V.int)) ∧ ds.length ≤ 60 * i + j)
          ⟨x6, c, ds, rfl, o1, hp1, by omega⟩ (fun j σ H3 hj hW => ?_) (fun σ H3 hW => ?_)⟩
        · obtain ⟨x6, c, ds, rfl, o3, hp3, hd3⟩ := hW
          refine ⟨_, rfl, _, _, rfl, rfl, _, rfl, ite2 (fun y => ?_) (fun y => ?_)⟩
          · have hs : (ds.map V.int).length < sizeLine := by rw [List.length_map]; exact Nat.lt_of_le_of_lt (by omega : ds.length ≤ 100000) (by decide)
            refine ⟨_, rfl, .inl ⟨rfl, _, SqL.of hp3⟩, _, rfl, .inl ⟨_, rfl, _, _, rfl, rfl, (by show (0 : Int) < 1000; decide), p, _, _, rfl, rfl, hp3, hs, ?_⟩⟩
            refine ⟨_, rfl, _, _, rfl, rfl, ⟨by decide, by decide⟩, _, _, ds ++ [c % 1000], rfl, (((o3.mono (S' := [p]) (by simp)).trans (Oth.put (by simp) hp3)).drop hp), ?_, ?_⟩
            · rw [upd_same, List.map_append]; rfl
            · rw [List.length_append]; simp; omega
          · exact ⟨_, c, ds, rfl, o3, hp3, by omega⟩
        · obtain ⟨x6, c, ds, rfl, o3, hp3, hd3⟩ := hW
          exact ⟨_, _, _, _, ds, rfl, o3, hp3, by omega⟩
      · have y' : c < 10 ^ 18 := Int.not_le.mp fun z => y (decide_eq_true z)
        have y2 : c < 1000000000000000000 := Int.lt_of_lt_of_le y' (by decide)
        refine ⟨_, rfl, _, _, rfl, rfl, .inl ⟨by omega, by omega⟩, _, rfl, _, _, rfl, rfl, .inl ⟨by omega, by omega⟩, _, _, rfl, rfl, _, _, rfl, rfl, .inl ⟨_, rfl, _, _, rfl, rfl, (by show (0 : Int) < 2147483647; decide), ?_⟩⟩
        have s0 : 0 ≤ (c * 48271 + ((i0 : Int) + (i : Int)) * 69621 + 11) % 2147483647 := Int.emod_nonneg _ (by decide)
        have s1 : (c * 48271 + ((i0 : Int) + (i : Int)) * 69621 + 11) % 2147483647 < 2147483647 := Int.emod_lt_of_pos _ (by decide)
        refine ⟨12, rfl, by decide, by decide, for_range (lo := 0) (n := 12)
          (fun j σ H3 => ∃ (x6 : Option V) (s : Int) (ds : List Int), σ = [some (.ref a), some (.int (i0 : Int)), some (.int (j0 : Int)), some (.ref p), some (.int ((i0 : Int) + (i : Int))), some (.int c), x6, some (.int s)] ∧ 0 ≤ s ∧ s < 2147483647 ∧ Oth [] H H3 ∧ H3 p = some (.lst (ds.map V.int)) ∧ ds.length ≤ 60 * i + j)
          ⟨x6, _, ds, rfl, s0, s1, o1, hp1, by omega⟩ (fun j σ H3 hj hW => ?_) (fun σ H3 hW => ?_)⟩
        · obtain ⟨x6, s', ds, rfl, t0, t1, o3, hp3, hd3⟩ := hW
          have hs : (ds.map V.int).length < sizeLine := by rw [List.length_map]; exact Nat.lt_of_le_of_lt (by omega : ds.length ≤ 100000) (by decide)
          refine ⟨_, rfl, _, _, rfl, rfl, .inl ⟨by omega, by omega⟩, _, rfl, _, _, rfl, rfl, .inl ⟨by decide, by decide⟩, _, _, rfl, rfl, _, _, rfl, rfl, .inl ⟨_, rfl, _, _, rfl, rfl, (by show (0 : Int) < 2147483647; decide), ?_⟩⟩
          refine ⟨_, rfl, .inl ⟨rfl, _, SqL.of hp3⟩, _, rfl, _, _, rfl, rfl, ⟨by decide, by decide⟩, .inl ⟨_, rfl, _, _, rfl, rfl, (by show (0 : Int) < 1000; decide), p, _, _, rfl, rfl, hp3, hs, ?_⟩⟩
          refine ⟨_, _, ds ++ [((s' * 16807 + 7 * (0 + (j : Int)) + 1) % 2147483647 / 997) % 1000], rfl, Int.emod_nonneg _ (by decide), Int.emod_lt_of_pos _ (by decide), (((o3.mono (S' := [p]) (by simp)).trans (Oth.put (by simp) hp3)).drop hp), ?_, ?_⟩
          · rw [upd_same, List.map_append]; rfl
          · rw [List.length_append]; simp; omega
        · obtain ⟨x6, s', ds, rfl, t0, t1, o3, hp3, hd3⟩ := hW
          exact ⟨_, _, _, _, ds, rfl, o3, hp3, by omega⟩
  · obtain ⟨x4, x5, x6, x7, ds, rfl, o1, hp1, hds⟩ := hW
    exact ⟨_, rfl, q p H1 ds hp o1 hp1⟩
end
abbrev sSame : Stmt := topS 17
theorem scSame : FnScope ["actual", "expected", "k"] ["actual", "expected"] (defScope sSame) := ⟨rfl, rfl, rfl, by decide +kernel, rfl, by decide +kernel, by decide +kernel⟩
section
variable {P : Program} {w : World} {K : PySem.W.Frag} {mg : Str → Option Value} {base : Heap}
theorem ok_same {f : Addr} {fd : FuncData} {k n : Nat} (F : Fun K "_law_same" "_law_same" sSame f fd)
    (GS : FnOk P w K mg base CX0 k f fd ["actual", "expected"] (spSame n)) (bS : Binds K fd ["actual", "expected"] []) (kS : PySem.W.keepIn K (.ref f) = true) (mS : mg "_law_same" = some (.ref f))
    (m_isinstance : mg "isinstance" = none) (m_tuple : mg "tuple" = none) (m_len : mg "len" = none) (m_range : mg "range" = none) (m_bool : mg "bool" = none) (m_int : mg "int" = none) (m_str : mg "str" = none) :
    FnOk P w K mg base CX0 (k + 1) f fd ["actual", "expected"] (spSame (n + 1)) := by
  refine F.ok scSame (fun vs H Q E h => ?_) (fun cdv A outer s H vs Q E hr h => ?_)
  · obtain ⟨t, v, u, rfl, _⟩ := h
    rfl
  obtain ⟨t, v, u, rfl, hv, hu, hd, q⟩ := h
  have nd := scSame.nd
  refine ⟨_, (pss_cons (ps_if (pt_val (pe_callB call_isi (by rfl) m_isinstance bo_isi (pa_cons (pv 1) (pa_cons (pe_bltn (v := .ty "tuple") (by rfl) m_tuple bo_tuple rfl) pa_nil))))
  (pss_cons (ps_if (PW.pt (pw_or (pt_not (pt_val (pe_callB call_isi (by rfl) m_isinstance bo_isi (pa_cons (pv 0) (pa_cons (pe_bltn (v := .ty "tuple") (by rfl) m_tuple bo_tuple rfl) pa_nil))))) (pw_or1 (pt_cmpR op_ne (pe_callB call_len_seq (by rfl) m_len PySem.boot_len (pa_cons (pv 0) pa_nil)) (pe_callB call_len_seq (by rfl) m_len PySem.boot_len (pa_cons (pv 1) pa_nil)) (nomark _)))))
  (pss_one (ps_ret pe_bl))
  pss_nil)
  (pss_cons (ps_for PassesOwn.never rfl (pi_range1 (by rfl) m_range (pa_cons (pe_callB call_len_seq (by rfl) m_len PySem.boot_len (pa_cons (pv 1) pa_nil)) pa_nil)) (pg_name (i := 2) nd rfl (.inl rfl))
  (pss_one (ps_if (pt_not (pt_val (pe_call GS hr rfl mS kS bS .nil pass0 (pa_cons (pe_ix ix_tup (pv 0) (pv 2) (fun _ _ => rfl)) (pa_cons (pe_ix ix_tup (pv 1) (pv 2) (fun _ _ => rfl)) pa_nil)))))
  (pss_one (ps_ret pe_bl))
  pss_nil)))
  (pss_one (ps_ret pe_bl))))
  pss_nil)
  (pss_cons (ps_if (pt_cmpR op_isN (pv 1) pe_non (nomark _))
  (pss_one (ps_ret (pe_cmpR op_isN (pv 0) pe_non (nomark _))))
  pss_nil)
  (pss_cons (ps_if (pt_val (pe_callB call_isi (by rfl) m_isinstance bo_isi (pa_cons (pv 1) (pa_cons (pe_bltn (v := .ty "bool") (by rfl) m_bool bo_bool rfl) pa_nil))))
  (pss_one (ps_ret (pe_and (pe_callB call_isi (by rfl) m_isinstance bo_isi (pa_cons (pv 0) (pa_cons (pe_bltn (v := .ty "bool") (by rfl) m_bool bo_bool rfl) pa_nil))) (pe_one (pe_cmpR op_eq (pv 0) (pv 1) (nomark _))))))
  pss_nil)
  (pss_cons (ps_if (pt_val (pe_callB call_isi (by rfl) m_isinstance bo_isi (pa_cons (pv 1) (pa_cons (pe_bltn (v := .ty "int") (by rfl) m_int bo_int rfl) pa_nil))))
  (pss_one (ps_ret (pe_and (pe_callB call_isi (by rfl) m_isinstance bo_isi (pa_cons (pv 0) (pa_cons (pe_bltn (v := .ty "int") (by rfl) m_int bo_int rfl) pa_nil))) (pe_and (pe_not (pe_callB call_isi (by rfl) m_isinstance bo_isi (pa_cons (pv 0) (pa_cons (pe_bltn (v := .ty "bool") (by rfl) m_bool bo_bool rfl) pa_nil)))) (pe_one (pe_cmpR op_eq (pv 0) (pv 1) (nomark _)))))))
  pss_nil)
  (pss_one (ps_ret (pe_and (pe_callB call_isi (by rfl) m_isinstance bo_isi (pa_cons (pv 0) (pa_cons (pe_bltn (v := .ty "str") (by rfl) m_str bo_str rfl) pa_nil))) (pe_one (pe_cmpR op_eq (pv 0) (pv 1) (nomark _)))))))))), ?_⟩
  cases hd with
  | non _ =>
    obtain rfl := hv.of_non
    obtain rfl := hu.of_non
    refine ⟨_, rfl, _, _, _, _, false, rfl, .ty "tuple", hu.ty, kit_ty kb_NoneType_tuple, _, rfl, iteF ?_⟩
    refine ⟨_, rfl, rfl, _, rfl, iteT ⟨_, rfl, rfl, ?_⟩⟩
    exact q
  | int _ i =>
    obtain rfl := hv.of_int
    obtain rfl := hu.of_int
    refine ⟨_, rfl, _, _, _, _, false, rfl, .ty "tuple", hu.ty, kit_ty kb_int_tuple, _, rfl, iteF ?_⟩
    refine ⟨_, rfl, rfl, _, rfl, iteF ?_⟩
    refine ⟨_, rfl, _, _, _, _, false, rfl, .ty "bool", hu.ty, kit_ty kb_int_bool, _, rfl, iteF ?_⟩
    refine ⟨_, rfl, _, _, _, _, true, rfl, .ty "int", hu.ty, kit_ty kb_int_int, _, rfl, iteT ?_⟩
    refine ⟨_, rfl, _, _, _, _, true, rfl, .ty "int", hu.ty, kit_ty kb_int_int, _, rfl, iteT ?_⟩
    refine ⟨_, rfl, _, _, _, _, false, rfl, .ty "bool", hu.ty, kit_ty kb_int_bool, _, rfl, _, rfl, iteT ?_⟩
    refine ⟨_, rfl, _, rfl, rfl, ?_⟩
    rw [decide_eq_true rfl]
    exact q
  | str _ x =>
    obtain rfl := hv.of_str
    obtain rfl := hu.of_str
    refine ⟨_, rfl, _, _, _, _, false, rfl, .ty "tuple", hu.ty, kit_ty kb_str_tuple, _, rfl, iteF ?_⟩
    refine ⟨_, rfl, rfl, _, rfl, iteF ?_⟩
    refine ⟨_, rfl, _, _, _, _, false, rfl, .ty "bool", hu.ty, kit_ty kb_str_bool, _, rfl, iteF ?_⟩
    refine ⟨_, rfl, _, _, _, _, false, rfl, .ty "int", hu.ty, kit_ty kb_str_int, _, rfl, iteF ?_⟩
    refine ⟨_, rfl, _, _, _, _, true, rfl, .ty "str", hu.ty, kit_ty kb_str_str, _, rfl, iteT ?_⟩
    refine ⟨_, rfl, _, rfl, rfl, ?_⟩
    rw [decide_eq_true rfl]
    exact q
  | tup _ ts hz hts =>
    obtain ⟨a, xs, rfl, ea, pa⟩ := hv.inv
    obtain ⟨b, ys, rfl, eb, pb⟩ := hu.inv
    have la := (paired_get pa).1
    have lb := (paired_get pb).1
    refine ⟨_, rfl, _, _, _, _, true, rfl, .ty "tuple", hu.ty, kit_ty kb_tuple_tuple, _, rfl, iteT ?_⟩
    refine ⟨_, rfl, _, _, _, _, true, rfl, .ty "tuple", hv.ty, kit_ty kb_tuple_tuple, _, rfl, iteF ?_⟩
    refine ⟨_, rfl, a, _, rfl, .inr (SqT.of ea), _, rfl, b, _, rfl, .inr (SqT.of eb), rfl, _, rfl, ?_⟩
    rw [la, lb, decide_eq_true rfl]
    refine iteF ?_
    refine ⟨_, rfl, b, _, rfl, .inr (SqT.of eb), _, rfl, by omega, by omega, for_range (lo := 0) (n := ((ys.length : Nat) : Int).toNat)
      (fun i σ H1 => H1 = H ∧ ∃ x2 : Option V, σ = [some (.ref a), some (.ref b), x2]) ⟨rfl, none, rfl⟩ (fun i σ H1 hi hW => ?_) (fun σ H1 hW => ?_)⟩
    · obtain ⟨rfl, x2, rfl⟩ := hW
      have hi1 : i < ts.length := by omega
      have ga : xs[i]? = some xs[i] := List.getElem?_eq_getElem (by omega)
      have gb : ys[i]? = some ys[i] := List.getElem?_eq_getElem (by omega)
      have gt : ts[i]? = some ts[i] := List.getElem?_eq_getElem hi1
      refine ⟨_, rfl, _, rfl, a, _, (i : Int), _, rfl, by rw [Int.zero_add], SqT.of ea, atI_nat ga, _, rfl, _, rfl, b, _, (i : Int), _, rfl, by rw [Int.zero_add], SqT.of eb, atI_nat gb, ?_⟩
      refine ⟨ts[i], _, _, rfl, (paired_get pa).2 i _ _ gt ga, (paired_get pb).2 i _ _ gt gb, hts _ (List.getElem_mem hi1), _, rfl, ?_⟩
      exact iteF ⟨rfl, _, rfl⟩
    · obtain ⟨rfl, x2, rfl⟩ := hW
      exact q
end
abbrev sTListed : Stmt := topS 3
abbrev sTRows : Stmt := topS 4
theorem scTListed : FnScope ["nodes", "parent", "found", "node"] ["nodes", "parent"] (defScope sTListed) := ⟨rfl, rfl, rfl, by decide +kernel, rfl, by decide +kernel, by decide +kernel⟩
theorem scTRows : FnScope ["tree", "rows", "_", "node", "inner"] ["tree"] (defScope sTRows) := ⟨rfl, rfl, rfl, by decide +kernel, rfl, by decide +kernel, by decide +kernel⟩
abbrev sTBare : Stmt := topS 5
theorem scTBare : FnScope ["node"] ["node"] (defScope sTBare) := ⟨rfl, rfl, rfl, by decide +kernel, rfl, by decide +kernel, by decide +kernel⟩
section
variable {P : Program} {w : World} {K : PySem.W.Frag} {mg : Str → Option Value} {base : Heap}
theorem ok_tlisted {f : Addr} {fd : FuncData} {k n : Nat} (F : Fun K "_listed" "_listed" sTListed f fd)
    (GTl : FnOk P w K mg base CX0 k f fd ["nodes", "parent"] (spListed n)) (bTl : Binds K fd ["nodes", "parent"] []) (kTl : PySem.W.keepIn K (.ref f) = true) (mTl : mg "_listed" = some (.ref f)) :
    FnOk P w K mg base CX0 (k + 1) f fd ["nodes", "parent"] (spListed (n + 1)) := by
  refine F.ok scTListed (fun vs H Q E h => ?_) (fun cdv A outer s H vs Q E' hr h => ?_)
  · obtain ⟨ns, p, v, rfl, _⟩ := h
    rfl
  obtain ⟨ns, kp, v, rfl, tv, hh, hc, q⟩ := h
  have nd := scTListed.nd
  refine ⟨_, (pss_cons (ps_set (i := 2) nd rfl (.inl rfl) (pe_lst pa_nil))
  (pss_cons (ps_for PassesOwn.never rfl (pi_tup (pv 0)) (pg_name (i := 3) nd rfl (.inl rfl))
  (pss_cons (ps_expr (pe_bm PySem.F.plainAttrs_list PySem.F.slot_list_append PySem.F.type_list_append mt_append (pv 2) (pa_cons (pe_tup (pa_cons (pv 1) (pa_cons (pv 3) pa_nil))) pa_nil)))
  (pss_one (ps_if (pt_cmpR op_eq (pe_ix ix_tup (pv 3) pe_int (fun _ _ => rfl)) pe_str (nomark _))
  (pss_one (ps_expr (pe_bm PySem.F.plainAttrs_list PySem.F.slot_list_extend PySem.F.type_list_extend mt_extend (pv 2) (pa_cons (pe_call GTl hr rfl mTl kTl bTl .nil pass0 (pa_cons (pe_ix ix_tup (pv 3) pe_int (fun _ _ => rfl)) (pa_cons (pe_ix ix_tup (pv 3) pe_int (fun _ _ => rfl)) pa_nil))) pa_nil))))
  pss_nil))))
  (pss_one (ps_ret (pv 2))))), ?_⟩
  obtain ⟨a, xs, rfl, ea, pa⟩ := tv.inv
  have lx : xs.length = ns.length := by rw [(paired_get pa).1, Sn.toTs_map, List.length_map]
  refine ⟨sz, fun p hp => ?_⟩
  have o0 := Oth.new (S := []) (o := .lst []) hp
  refine ⟨_, rfl, a, rfl, ⟨xs, SqT.of (o0.tup _ _ ea)⟩, for_tup (xs := xs)
    (fun j σ H1 => ∃ (x3 : Option V) (out : List V), σ = [some (.ref a), some (k0V kp), some (.ref p), x3] ∧ Oth [p] H H1 ∧ H1 p = some (.lst out) ∧ Paired (IsT H1) ((Sn.lst kp (ns.take j)).map itT) out)
    ⟨none, [], rfl, o0.mono (by simp), upd_same, .nil⟩ (fun j σ H1 _ hW => ?_) (fun j x σ H1 hx hW => ?_) (fun σ H1 hW => ?_)⟩
  · obtain ⟨_, _, _, o1, _⟩ := hW
    exact SqT.of (o1.tup _ _ ea)
  · obtain ⟨x3, out, rfl, o1, hp1, po1⟩ := hW
    have hj : j < ns.length := by rw [← lx]; exact (List.getElem?_eq_some_iff.mp hx).1
    obtain ⟨nd1, gn⟩ : ∃ nd, ns[j]? = some nd := ⟨ns[j], List.getElem?_eq_getElem hj⟩
    have tn : IsT H1 nd1.toT x := ((paired_get pa).2 j _ _ (by rw [Sn.toTs_map, List.getElem?_map, gn]; rfl) hx).oth o1
    have mem := List.mem_of_getElem? gn
    have hhn := Sn.hts_mem mem
    have hcn := Sn.kids_len mem
    have lout : out.length ≤ 1000 := by
      have h1 := (paired_get po1).1
      rw [List.length_map, Sn.all_len] at h1
      have e2 := congrArg (fun l => (Sn.all l).length) (List.take_append_drop j ns).symm
      simp only [Sn.all_app, List.length_append] at e2
      omega
    refine ⟨_, rfl, .inl ⟨rfl, _, SqL.of hp1⟩, _, rfl, _, rfl, sz, fun t ht => ?_⟩
    have ot := Oth.new (S := []) (o := .tup [k0V kp, x]) ht
    have hp2 := ot.keep p _ (by simp) hp1
    have tit : IsT _ (itT (kp, nd1)) (.ref t) := .mk2 (upd_same : (upd H1 t (.tup [k0V kp, x])) t = _) (k0T_is kp) (tn.oth ot)
    refine ⟨p, out, .ref t, rfl, rfl, hp2, Nat.lt_of_le_of_lt lout (by decide), ?_⟩
    have op : Oth [p] _ (upd (upd H1 t (.tup [k0V kp, x])) p (.lst (out ++ [.ref t]))) := Oth.put (by simp) hp2
    have o3 := o1.trans ((ot.mono (by simp)).trans op)
    have tit3 := tit.oth op
    have po3 := paired_oth (paired_oth po1 ot) op
    have tn3 := (tn.oth ot).oth op
    have hp3 : (upd (upd H1 t (.tup [k0V kp, x])) p (.lst (out ++ [.ref t]))) p = some (.lst (out ++ [.ref t])) := upd_same
    generalize (upd (upd H1 t (.tup [k0V kp, x])) p (.lst (out ++ [.ref t]))) = H3 at o3 tit3 po3 tn3 hp3
    have e1 : Sn.lst kp (ns.take (j + 1)) = Sn.lst kp (ns.take j) ++ (kp, nd1) :: Sn.lst (some nd1.num) nd1.kids := by
      rw [take_snoc gn, Sn.lst_app]
      cases nd1 <;> simp [Sn.lst, Sn.lst1, Sn.kids, Sn.num]
    cases nd1 with
    | text q' s' =>
      obtain ⟨b, _, v1, v2, rfl, eb, p0, p1, p2⟩ := IsT.inv3 tn3
      obtain rfl := p0.of_str
      refine ⟨_, rfl, b, _, _, _, rfl, rfl, SqT.of eb, at0, rfl, _, rfl, iteF ⟨_, _, rfl, o3, hp3, ?_⟩⟩
      rw [e1, List.map_append]
      exact paired_app po3 (.cons tit3 .nil)
    | input q' s' =>
      obtain ⟨b, _, v1, v2, v3, rfl, eb, p0, p1, p2, p3⟩ := IsT.inv4 tn3
      obtain rfl := p0.of_str
      refine ⟨_, rfl, b, _, _, _, rfl, rfl, SqT.of eb, at0, rfl, _, rfl, iteF ⟨_, _, rfl, o3, hp3, ?_⟩⟩
      rw [e1, List.map_append]
      exact paired_app po3 (.cons tit3 .nil)
    | box q' t' inner =>
      obtain ⟨b, _, v1, v2, v3, rfl, eb, p0, p1, p2, p3⟩ := IsT.inv4 tn3
      obtain rfl := p0.of_str
      obtain rfl := p1.of_int
      simp only [Sn.ht] at hhn
      refine ⟨_, rfl, b, _, _, _, rfl, rfl, SqT.of eb, at0, rfl, _, rfl, iteT ?_⟩
      refine ⟨_, rfl, .inl ⟨rfl, _, SqL.of hp3⟩, _, rfl, b, _, _, _, rfl, rfl, SqT.of eb, at3, _, rfl, b, _, _, _, rfl, rfl, SqT.of eb, at1, inner, some q', _, rfl, p3, by omega, by show (Sn.all (Sn.box q' t' inner).kids).length ≤ _; omega, fun r us H4 hr4 er pr o4 => ?_⟩
      have hp4 := o4.keep p _ (by simp) hp3
      have lus := (paired_get pr).1
      rw [List.length_map, Sn.all_len] at lus
      have hcn' : (Sn.all inner).length ≤ (Sn.all ns).length := hcn
      refine ⟨p, r, _, us, rfl, rfl, hp4, er, Nat.le_trans (by rw [List.length_append, List.length_singleton]; omega : _ ≤ 2001) (by decide), ?_⟩
      have op2 : Oth [p] H4 (upd H4 p (.lst (out ++ [V.ref t] ++ us))) := Oth.put (by simp) hp4
      refine ⟨_, _, rfl, o3.trans ((o4.mono (by simp)).trans op2), upd_same, ?_⟩
      rw [List.append_assoc] at op2 ⊢
      rw [e1, List.map_append]
      exact paired_app (paired_oth (paired_oth po3 o4) op2) (.cons ((tit3.oth o4).oth op2) (paired_oth pr op2))
  · obtain ⟨x3, out, rfl, o1, hp1, po1⟩ := hW
    rw [lx, List.take_length] at po1
    exact ⟨_, rfl, q p out H1 hp hp1 po1 (Oth.drop o1 hp)⟩
theorem ok_trowsD {f fL : Addr} {fd dL : FuncData} {k n : Nat} (F : Fun K "_rows" "_rows" sTRows f fd)
    (GTl : FnOk P w K mg base CX0 k fL dL ["nodes", "parent"] (spListed n)) (bTl : Binds K dL ["nodes", "parent"] []) (kTl : PySem.W.keepIn K (.ref fL) = true) (mTl : mg "_listed" = some (.ref fL)) :
    FnOk P w K mg base CX0 (k + 1) f fd ["tree"] (spRowsD n) := by
  refine F.ok scTRows (fun vs H Q E h => ?_) (fun cdv A outer s H vs Q E' hr h => ?_)
  · obtain ⟨ns, v, rfl, _⟩ := h
    rfl
  obtain ⟨ns, v, rfl, tv, hh, hc, q⟩ := h
  have nd := scTRows.nd
  refine ⟨_, (pss_cons (ps_set (i := 1) nd rfl (.inl rfl) (pe_lst (pa_cons (pe_tup (pa_cons pe_non (pa_cons (pe_lc (own := [("node", 3)]) (g := gName 3) (tt := tYes) rfl nd (pi_tup (pv 0)) (blkOk_by (N := ["tree", "rows", "_", "node", "inner"]) (sc := defScope sTRows) (by decide +kernel)) (fun _ _ _ _ _ => (pg_name (i := 3) nd rfl (.inl rfl))) (fun _ _ _ _ _ => pts_nil) (fun _ _ _ _ _ => (pe_ix (r := rIxT K) ix_tup (pv 3) pe_int (fun _ _ => rfl)))) pa_nil))) pa_nil)))
  (pss_cons (ps_for PassesOwn.never rfl (pi_list (pe_call GTl hr rfl mTl kTl bTl .nil pass0 (pa_cons (pv 0) (pa_cons pe_non pa_nil)))) (pg_tup rfl (pgs_cons (pg_name (i := 2) nd rfl (.inl rfl)) (pgs_cons (pg_name (i := 3) nd rfl (.inl rfl)) pgs_nil)))
  (pss_one (ps_if (pt_cmpR op_eq (pe_ix ix_tup (pv 3) pe_int (fun _ _ => rfl)) pe_str (nomark _))
  (pss_one (ps_expr (pe_bm PySem.F.plainAttrs_list PySem.F.slot_list_append PySem.F.type_list_append mt_append (pv 1) (pa_cons (pe_tup (pa_cons (pe_ix ix_tup (pv 3) pe_int (fun _ _ => rfl)) (pa_cons (pe_lc (own := [("inner", 4)]) (g := gName 4) (tt := tYes) rfl nd (pi_tup (pe_ix ix_tup (pv 3) pe_int (fun _ _ => rfl))) (blkOk_by (N := ["tree", "rows", "_", "node", "inner"]) (sc := defScope sTRows) (by decide +kernel)) (fun _ _ _ _ _ => (pg_name (i := 4) nd rfl (.inl rfl))) (fun _ _ _ _ _ => pts_nil) (fun _ _ _ _ _ => (pe_ix (r := rIxT K) ix_tup (pv 4) pe_int (fun _ _ => rfl)))) pa_nil))) pa_nil))))
  pss_nil)))
  (pss_one (ps_ret (pv 1))))), ?_⟩
  obtain ⟨a, xs, rfl, ea, pa⟩ := tv.inv
  have lx : xs.length = ns.length := by rw [(paired_get pa).1, Sn.toTs_map, List.length_map]
  have lns := Sn.len_all ns
  -- the top's row
  refine ⟨_, rfl, a, rfl, ⟨xs, SqT.of ea⟩, fun D hD => lc_tup (xs := xs)
    (fun j H1 => H1 D = some (.lst (intL (nums (ns.take j)))) ∧ Oth [D] H H1)
    ⟨upd_same, Oth.new hD⟩ (fun j H1 _ hW => ?_) (fun j x H1 hx hW => ?_) (fun H1 hW => ?_)⟩
  · exact SqT.of (hW.2.tup _ _ ea)
  · obtain ⟨hD1, o1⟩ := hW
    have hj : j < ns.length := by rw [← lx]; exact (List.getElem?_eq_some_iff.mp hx).1
    obtain ⟨nd1, gn⟩ : ∃ nd, ns[j]? = some nd := ⟨ns[j], List.getElem?_eq_getElem hj⟩
    have tn : IsT H1 nd1.toT x := ((paired_get pa).2 j _ _ (by rw [Sn.toTs_map, List.getElem?_map, gn]; rfl) hx).oth o1
    obtain ⟨b, y, ys, rfl, eb, ey⟩ := sn_num tn
    refine ⟨rfl, _, rfl, b, _, _, _, rfl, rfl, SqT.of eb, ey, _, hD1, Nat.lt_of_le_of_lt (by rw [intL_len, nums, List.length_map, List.length_take]; omega : _ ≤ 1000) (by decide), ?_, o1.trans (Oth.put (by simp) hD1)⟩
    rw [take_snoc gn]
    show (upd H1 D _) D = _
    rw [upd_same]
    simp [intL, nums]
  obtain ⟨hD1, o1⟩ := hW
  rw [lx, List.take_length] at hD1
  have o1' := Oth.drop o1 hD
  refine ⟨sz, fun t ht => ⟨sz, fun p hp => ?_⟩⟩
  have ot := Oth.new (S := []) (o := .tup [.non, .ref D]) ht
  have op := Oth.new (S := []) (o := .lst [.ref t]) hp
  have o2 := o1'.trans (ot.trans op)
  have f0 : FamZ p H (upd (upd H1 t (.tup [.non, .ref D])) p (.lst [.ref t])) (none, nums ns, D) (.ref t) := ⟨t, rfl, op.tup _ _ upd_same, (ot.trans op).keep D _ (by simp) hD1, ne_of_none (ot.keep D _ (by simp) hD1) hp, hD⟩
  have hp2 : (upd (upd H1 t (.tup [.non, .ref D])) p (.lst [.ref t])) p = some (.lst [.ref t]) := upd_same
  have hpH : H p = none := by
    cases e : H p with
    | none => rfl
    | some z =>
      have := ot.keep p _ (by simp) (o1'.keep p _ (by simp) e)
      rw [hp] at this; cases this
  generalize (upd (upd H1 t (.tup [.non, .ref D])) p (.lst [.ref t])) = H2 at o2 f0 hp2
  -- the boxes
  refine ⟨_, rfl, ns, none, _, rfl, .mk (o2.tup _ _ ea) (paired_oth pa o2), hh, hc, fun r us H3 hr3 er pr o3 => ?_⟩
  have lus : us.length = (Sn.lst none ns).length := by rw [(paired_get pr).1, List.length_map]
  have nrp : r ≠ p := (ne_of_none hp2 hr3).symm
  have hp3 := o3.keep p _ (by simp) hp2
  refine ⟨r, rfl, ⟨us, SqL.of er⟩, for_list (xs := us)
    (fun j σ H4 => ∃ (x2 x3 x4 : Option V) (out : List V), σ = [some (.ref a), some (.ref p), x2, x3, x4] ∧ Oth [p] H3 H4 ∧ H4 p = some (.lst out) ∧ FamsZ p H H4 ((none, nums ns) :: (((Sn.lst none ns).take j).filter fun q => q.2.isB).map fun q => (some q.2.num, nums q.2.kids)) out)
    ⟨none, none, none, _, rfl, Oth.refl, hp3, ⟨[(none, nums ns, D)], rfl, (.cons (f0.oth (o3.mono (by simp))) .nil), by simp⟩⟩ (fun j σ H4 _ hW => ?_) (fun j x σ H4 hx hW => ?_) (fun σ H4 hW => ?_)⟩
  · obtain ⟨_, _, _, _, _, o4, _⟩ := hW
    exact SqL.of (o4.keep r _ (by simp [nrp]) er)
  · obtain ⟨x2, x3, x4, out, rfl, o4, hp4, po4⟩ := hW
    have hj : j < (Sn.lst none ns).length := by rw [← lus]; exact (List.getElem?_eq_some_iff.mp hx).1
    obtain ⟨it, gi⟩ : ∃ it, (Sn.lst none ns)[j]? = some it := ⟨_, List.getElem?_eq_getElem hj⟩
    have ti : IsT H4 (itT it) x := ((paired_get pr).2 j _ _ (by rw [List.getElem?_map, gi]; rfl) hx).oth o4
    obtain ⟨ai, y1, y2, rfl, eai, k1, k2⟩ := IsT.inv2 ti
    have mem := List.mem_of_getElem? gi
    have mem2 : it.2 ∈ Sn.all ns := List.mem_map.mpr ⟨it, mem, rfl⟩
    have lkid := Sn.kids_sub (Nat.le_refl _) mem2
    have lkid2 := Sn.len_all it.2.kids
    have lout : out.length ≤ 1001 := by
      obtain ⟨fz, ef, pf, _⟩ := po4
      have h1 := (pget pf).1
      have h0 := congrArg List.length ef
      rw [List.length_map] at h0
      rw [h0] at h1
      have h2 := List.length_filter_le (fun q : Key0 × Sn => q.2.isB) ((Sn.lst none ns).take j)
      have h3 : ((Sn.lst none ns).take j).length ≤ (Sn.lst none ns).length := by rw [List.length_take]; omega
      rw [List.length_cons, List.length_map] at h1
      rw [Sn.all_len none ns] at h3
      omega
    refine ⟨ai, [y1, y2], rfl, SqT.of eai, rfl, _, _, rfl, _, _, rfl, rfl, ?_⟩
    obtain ⟨pp, n⟩ := it
    cases n with
    | text q' s' =>
      obtain ⟨b, _, v1, v2, rfl, eb, p0, p1, p2⟩ := IsT.inv3 k2
      obtain rfl := p0.of_str
      refine ⟨_, rfl, b, _, _, _, rfl, rfl, SqT.of eb, at0, rfl, _, rfl, iteF ⟨_, _, _, _, rfl, o4, hp4, ?_⟩⟩
      rw [take_snoc gi, List.filter_append]
      simpa [Sn.isB] using po4
    | input q' s' =>
      obtain ⟨b, _, v1, v2, v3, rfl, eb, p0, p1, p2, p3⟩ := IsT.inv4 k2
      obtain rfl := p0.of_str
      refine ⟨_, rfl, b, _, _, _, rfl, rfl, SqT.of eb, at0, rfl, _, rfl, iteF ⟨_, _, _, _, rfl, o4, hp4, ?_⟩⟩
      rw [take_snoc gi, List.filter_append]
      simpa [Sn.isB] using po4
    | box q' t' inner =>
      obtain ⟨b, _, v1, v2, v3, rfl, eb, p0, p1, p2, p3⟩ := IsT.inv4 k2
      obtain rfl := p0.of_str
      obtain rfl := p1.of_int
      obtain ⟨ak, xk, rfl, ek, pk⟩ := p3.inv
      have lxk : xk.length = inner.length := by rw [(paired_get pk).1, Sn.toTs_map, List.length_map]
      have lin : inner.length ≤ 1000 := by
        have e1 : Sn.kids (.box q' t' inner) = inner := rfl
        rw [e1] at lkid lkid2; omega
      refine ⟨_, rfl, b, _, _, _, rfl, rfl, SqT.of eb, at0, rfl, _, rfl, iteT ?_⟩
      refine ⟨_, rfl, .inl ⟨rfl, _, SqL.of hp4⟩, _, rfl, b, _, _, _, rfl, rfl, SqT.of eb, at1, _, rfl, b, _, _, _, rfl, rfl, SqT.of eb, at3, ak, rfl, ⟨xk, SqT.of ek⟩, fun D2 hD2 => lc_tup (xs := xk)
        (fun i H1 => H1 D2 = some (.lst (intL (nums (inner.take i)))) ∧ Oth [D2] H4 H1)
        ⟨upd_same, Oth.new hD2⟩ (fun i H1 _ hW => ?_) (fun i x H1 hx hW => ?_) (fun H1 hW => ?_)⟩
      · exact SqT.of (hW.2.tup _ _ ek)
      · obtain ⟨hD1, o1⟩ := hW
        have hj : i < inner.length := by rw [← lxk]; exact (List.getElem?_eq_some_iff.mp hx).1
        obtain ⟨nd1, gn⟩ : ∃ nd, inner[i]? = some nd := ⟨inner[i], List.getElem?_eq_getElem hj⟩
        have tn : IsT H1 nd1.toT x := ((paired_get pk).2 i _ _ (by rw [Sn.toTs_map, List.getElem?_map, gn]; rfl) hx).oth o1
        obtain ⟨b, y, ys, rfl, eb, ey⟩ := sn_num tn
        refine ⟨rfl, _, rfl, b, _, _, _, rfl, rfl, SqT.of eb, ey, _, hD1, Nat.lt_of_le_of_lt (by rw [intL_len, nums, List.length_map, List.length_take]; omega : _ ≤ 1000) (by decide), ?_, o1.trans (Oth.put (by simp) hD1)⟩
        rw [take_snoc gn]
        show (upd H1 D2 _) D2 = _
        rw [upd_same]
        simp [intL, nums]
      obtain ⟨hD3, o5⟩ := hW
      rw [lxk, List.take_length] at hD3
      have o5' := Oth.drop o5 hD2
      refine ⟨sz, fun t2 ht2 => ?_⟩
      have ot2 := Oth.new (S := []) (o := .tup [.int q', .ref D2]) ht2
      have o6 := o5'.trans ot2
      have hp6 := o6.keep p _ (by simp) hp4
      refine ⟨p, out, .ref t2, rfl, rfl, hp6, Nat.lt_of_le_of_lt lout (by decide), ?_⟩
      have op2 : Oth [p] _ (upd (upd H1 t2 (.tup [.int q', .ref D2])) p (.lst (out ++ [.ref t2]))) := Oth.put (by simp) hp6
      have npD : D2 ≠ p := (ne_of_none hp4 hD2).symm
      refine ⟨_, _, _, _, rfl, o4.trans ((o6.mono (by simp)).trans op2), upd_same, ?_⟩
      rw [take_snoc gi, List.filter_append, List.map_append, ← List.cons_append]
      obtain ⟨fz, ef, pf, nf⟩ := po4
      refine ⟨fz ++ [(some q', nums inner, D2)], by rw [List.map_append, ef]; rfl, ?_, ?_⟩
      · exact Paired.appendP (pimp pf fun f v h => (h.oth (o6.mono (by simp))).oth op2) (.cons ⟨t2, rfl, op2.tup _ _ upd_same, op2.keep D2 _ (by simp [npD]) (ot2.keep D2 _ (by simp) hD3), npD, back (o2.trans o3) (back o4 hD2 (by simp [npD])) (by simp)⟩ .nil)
      · rw [List.map_append]
        refine List.nodup_append.mpr ⟨nf, List.pairwise_singleton _ _, fun u hu v hv e => ?_⟩
        rw [List.map_singleton, List.mem_singleton] at hv
        obtain ⟨z, hz, rfl⟩ := List.mem_map.mp hu
        obtain ⟨x, i', hx'⟩ := pmem_of pf hz
        obtain ⟨_, _, _, h3, _⟩ := hx'
        exact ne_of_none h3 hD2 (e.trans hv)
  · obtain ⟨x2, x3, x4, out, rfl, o4, hp4, po4⟩ := hW
    rw [lus, List.take_length] at po4
    obtain ⟨fz, ef, pf, nf⟩ := po4
    have e : famN ns = (none, nums ns) :: ((Sn.lst none ns).filter fun q => q.2.isB).map fun q => (some q.2.num, nums q.2.kids) := by
      unfold famN Sn.fams Sn.all
      rw [List.map_cons, List.filter_map, List.map_map, List.map_map]
      rfl
    exact ⟨_, rfl, q p out fz H4 hpH hp4 (ef.trans e.symm) nf (pimp pf fun f v h => h.fam) (Oth.drop ((o2.trans o3).mono (S' := [p]) (by simp) |>.trans o4) hpH)⟩
theorem ok_tbare {f : Addr} {fd : FuncData} {k : Nat} (F : Fun K "_bare" "_bare" sTBare f fd) :
    FnOk P w K mg base CX0 (k + 1) f fd ["node"] spBare := by
  refine F.ok scTBare (fun vs H Q E h => ?_) (fun cdv A outer s H vs Q E' hr h => ?_)
  · obtain ⟨n, v, rfl, _⟩ := h
    rfl
  obtain ⟨n, v, rfl, tv, q⟩ := h
  have nd := scTBare.nd
  refine ⟨_, (pss_one (ps_ret (pe_ifExp (pt_cmpR op_eq (pe_ix ix_tup (pv 0) pe_int (fun _ _ => rfl)) pe_str (nomark _)) (pe_op op_catA (pe_slice sl_tupA (pv 0) po_none (po_some pe_int)) (pe_tup (pa_cons (pe_tup pa_nil) pa_nil))) (pv 0)))), ?_⟩
  cases n with
  | text q' s' =>
    obtain ⟨b, _, v1, v2, rfl, eb, p0, p1, p2⟩ := IsT.inv3 tv
    obtain rfl := p0.of_str
    exact ⟨_, rfl, b, _, _, _, rfl, rfl, SqT.of eb, at0, rfl, _, rfl, iteF ⟨_, rfl, q _ H tv Oth.refl⟩⟩
  | input q' s' =>
    obtain ⟨b, _, v1, v2, v3, rfl, eb, p0, p1, p2, p3⟩ := IsT.inv4 tv
    obtain rfl := p0.of_str
    exact ⟨_, rfl, b, _, _, _, rfl, rfl, SqT.of eb, at0, rfl, _, rfl, iteF ⟨_, rfl, q _ H tv Oth.refl⟩⟩
  | box q' t' inner =>
    obtain ⟨b, _, v1, v2, v3, rfl, eb, p0, p1, p2, p3⟩ := IsT.inv4 tv
    obtain rfl := p0.of_str
    refine ⟨_, rfl, b, _, _, _, rfl, rfl, SqT.of eb, at0, rfl, _, rfl, iteT ?_⟩
    refine ⟨_, rfl, 3, rfl, sl_take (n := 3) eb fun c H2 o2 e2 => ?_⟩
    refine ⟨sz, fun u hu => ⟨sz, fun u2 hu2 => ?_⟩⟩
    have ou := Oth.new (S := []) (o := .tup []) hu
    have ou2 := Oth.new (S := []) (o := .tup [.ref u]) hu2
    refine cat_t ((ou.trans ou2).tup _ _ e2) upd_same (by simp) fun d H3 o3 e3 => ?_
    have oa := o2.trans (ou.trans (ou2.trans o3))
    exact q _ H3 (.mk4 e3 (.str _) (p1.oth oa) (p2.oth oa) (.mk (o3.tup _ _ (ou2.tup _ _ upd_same)) .nil)) oa
end
abbrev sBox : Stmt := topS 9
abbrev sLForest : Stmt := topS 11
abbrev sLHere : Stmt := topS 13
theorem scBox : FnScope ["script", "first", "last"] ["script", "first", "last"] (defScope sBox) := ⟨rfl, rfl, rfl, by decide +kernel, rfl, by decide +kernel, by decide +kernel⟩
theorem scLForest : FnScope ["box", "parents", "kinds", "k", "boxes", "parent", "j"] ["box"] (defScope sLForest) := ⟨rfl, rfl, rfl, by decide +kernel, rfl, by decide +kernel, by decide +kernel⟩
theorem scLHere : FnScope ["box", "forest", "here", "k", "parent"] ["box", "forest"] (defScope sLHere) := ⟨rfl, rfl, rfl, by decide +kernel, rfl, by decide +kernel, by decide +kernel⟩
section
variable {P : Program} {w : World} {K : PySem.W.Frag} {mg : Str → Option Value} {base : Heap}
theorem ok_boxT {f fD : Addr} {fd dD : FuncData} {k : Nat} (F : Fun K "_law_box" "_law_box" sBox f fd)
    (GD : FnOk P w K mg base CX0 k fD dD ["script", "first", "last"] (spDigits K)) (bD : Binds K dD ["script", "first", "last"] []) (kD : PySem.W.keepIn K (.ref fD) = true) (mD : mg "_law_digits" = some (.ref fD)) :
    FnOk P w K mg base CX0 (k + 1) f fd ["script", "first", "last"] (spBoxT K) := by
  refine F.ok scBox (fun vs H Q E h => ?_) (fun cdv A outer s H vs Q E' hr h => ?_)
  · obtain ⟨a, ns, i, j, rfl, _⟩ := h
    rfl
  obtain ⟨a, ns, i, j, rfl, hS, hi, hj, q⟩ := h
  have nd := scBox.nd
  refine ⟨_, (pss_one (ps_ret (pe_lst (pa_cons (pe_call GD hr rfl mD kD bD .nil pass0 (pa_cons (pv 0) (pa_cons (pv 1) (pa_cons (pv 2) pa_nil)))) (pa_cons pe_int (pa_cons pe_int (pa_cons pe_int (pa_cons pe_int (pa_cons (pe_lst pa_nil) pa_nil))))))))), ?_⟩
  refine ⟨_, rfl, _, rfl, _, rfl, a, ns, i, j, rfl, hS, hi, hj, fun dg H1 ds hdg o1 edg => ⟨sz, fun e he => ⟨sz, fun b hb => ?_⟩⟩⟩
  have oe := Oth.new (S := []) (o := .lst []) he
  have ob := Oth.new (S := []) (o := .lst [.ref dg, .int 0, .int 0, .int 0, .int 0, .ref e]) hb
  exact q b dg _ _ (back (o1.trans oe) hb (by simp)) ⟨ds, 0, upd_same, (oe.trans ob).keep dg _ (by simp) edg⟩ (o1.trans (oe.trans ob))
theorem ok_forest {f fR : Addr} {fd dR : FuncData} {k : Nat} (F : Fun K "_law_forest" "_law_forest" sLForest f fd)
    (GR : FnOk P w K mg base CX0 k fR dR ["box", "many"] spDraw) (bR : Binds K dR ["box", "many"] []) (kR : PySem.W.keepIn K (.ref fR) = true) (mR : mg "_law_draw" = some (.ref fR))
    (m_range : mg "range" = none) (m_len : mg "len" = none) :
    FnOk P w K mg base CX0 (k + 1) f fd ["box"] spForestT := by
  refine F.ok scLForest (fun vs H Q E h => ?_) (fun cdv A outer s H vs Q E' hr h => ?_)
  · obtain ⟨b, d, rest, rfl, _⟩ := h
    rfl
  obtain ⟨b, d, rest, rfl, bx, q⟩ := h
  have nd := scLForest.nd
  refine ⟨_, (pss_cons (ps_set (i := 1) nd rfl (.inl rfl) (pe_lst pa_nil))
  (pss_cons (ps_set (i := 2) nd rfl (.inr rfl) (pe_lst pa_nil))
  (pss_cons (ps_for PassesOwn.never rfl (pi_range1 (by rfl) m_range (pa_cons (pe_op op_add pe_int (pe_call GR hr rfl mR kR bR .nil pass0 (pa_cons (pv 0) (pa_cons pe_int pa_nil)))) pa_nil)) (pg_name (i := 3) nd rfl (.inl rfl))
  (pss_cons (ps_setLc (i := 4) (own := [("j", 6)]) (g := gName 6) rfl nd rfl rfl (sw_true rfl rfl rfl (by decide +kernel)) (pi_range1 (by rfl) m_range (pa_cons (pv 3) pa_nil)) (blkOk_by (N := ["box", "parents", "kinds", "k", "boxes", "parent", "j"]) (sc := defScope sLForest) (by decide +kernel)) (fun _ _ _ _ _ => (pg_name (i := 6) nd rfl (.inl rfl))) (fun _ _ _ _ _ => pts_one (pt_cmpR op_eq (pe_ix (r := rIxL K) ix_list (pv 2) (pv 6) (fun _ _ => rfl)) pe_str (nomark _))) (fun _ _ _ _ _ => (pv 6)))
  (pss_cons (ps_set (i := 5) nd rfl (.inl rfl) (pe_un un_neg pe_int))
  (pss_cut (ps_if (PW.pt (pw_and (pt_cmpR op_gt (pe_callB call_len_seq (by rfl) m_len PySem.boot_len (pa_cons (pv 4) pa_nil)) pe_int (nomark _)) (pw_and1 (pt_cmpR op_gt (pe_call GR hr rfl mR kR bR .nil pass0 (pa_cons (pv 0) (pa_cons pe_int pa_nil))) pe_int (nomark _)))))
  (pss_one (ps_set (i := 5) nd rfl (.inl rfl) (pe_ix ix_list (pv 4) (pe_call GR hr rfl mR kR bR .nil pass0 (pa_cons (pv 0) (pa_cons (pe_callB call_len_seq (by rfl) m_len PySem.boot_len (pa_cons (pv 4) pa_nil)) pa_nil))) (fun _ _ => rfl))))
  pss_nil)
  (pss_cons (ps_expr (pe_bm PySem.F.plainAttrs_list PySem.F.slot_list_append PySem.F.type_list_append mt_append (pv 1) (pa_cons (pv 5) pa_nil)))
  (pss_one (ps_expr (pe_bm PySem.F.plainAttrs_list PySem.F.slot_list_append PySem.F.type_list_append mt_append (pv 2) (pa_cons (pe_ix ix_list (pe_lst (pa_cons pe_str (pa_cons pe_str (pa_cons pe_str (pa_cons pe_str pa_nil))))) (pe_call GR hr rfl mR kR bR .nil pass0 (pa_cons (pv 0) (pa_cons pe_int pa_nil))) (fun _ _ => rfl)) pa_nil)))))))))
  (pss_one (ps_ret (pe_lst (pa_cons (pv 1) (pa_cons (pv 2) pa_nil)))))))), ?_⟩
  refine ⟨sz, fun pa hpa => ⟨sz, fun ki hki => ?_⟩⟩
  have o1 := Oth.new (S := []) (o := .lst []) hpa
  have o2 := Oth.new (S := []) (o := .lst []) hki
  have npk : pa ≠ ki := ne_of_none (upd_same : (upd H pa (.lst [])) pa = _) hki
  have nbp := bx.nb hpa
  have nbk := (bx.new hpa (o := .lst [])).nb hki
  have ndp := bx.nd hpa
  have ndk := (bx.new hpa (o := .lst [])).nd hki
  have bx2 : Box (upd (upd H pa (.lst [])) ki (.lst [])) b d rest := (bx.new hpa).new hki
  have hkiH : H ki = none := back o1 hki (by simp)
  refine ⟨_, rfl, b, d, _, rest, rfl, by decide, bx2, fun r0 H3 r00 r01 bx3 o3 => ⟨_, _, rfl, rfl, _, rfl, by omega, by omega, for_range (lo := 0) (n := (1 + r0).toNat)
    (fun i σ H4 => ∃ (x3 x4 x5 : Option V) (ps : List Int) (ks : List Str), σ = [some (.ref b), some (.ref pa), some (.ref ki), x3, x4, x5, none] ∧ ps.length = i ∧ ks.length = i ∧
      (∀ k p, ps[k]? = some p → p = -1 ∨ ∃ j : Nat, j < k ∧ p = (j : Int)) ∧ (∀ s ∈ ks, s = "box" ∨ s = "text" ∨ s = "input") ∧
      H4 pa = some (.lst (ps.map V.int)) ∧ H4 ki = some (.lst (ks.map V.str)) ∧ Box H4 b d rest ∧ Oth [b, pa, ki] H H4)
    ⟨none, none, none, [], [], rfl, rfl, rfl, (fun k p h => nomatch h), (fun s h => nomatch h), o3.keep pa _ (by simp [nbp.symm]) (o2.keep pa _ (by simp) upd_same), o3.keep ki _ (by simp [nbk.symm]) upd_same, bx3, (o1.mono (by simp)).trans ((o2.mono (by simp)).trans (o3.mono (by simp)))⟩ (fun i σ H4 hi hW => ?_) (fun σ H4 hW => ?_)⟩⟩
  · obtain ⟨x3, x4, x5, ps, ks, rfl, lp, lk, hp, hk, epa, eki, bx4, o4⟩ := hW
    have hi12 : i < 12 := by omega
    -- the boxes before it
    have e00 : (0 : Int) + ((i : Nat) : Int) = ((i : Nat) : Int) := by omega
    rw [e00]
    refine ⟨_, rfl, _, rfl, by omega, by omega, fun D hD => lc_range (lo := 0) (n := i)
      (fun j H5 => ∃ bl : List Nat, H5 D = some (.lst (intL bl)) ∧ bl.length ≤ j ∧ (∀ x ∈ bl, x < i) ∧ Oth [D] H4 H5)
      ⟨[], upd_same, Nat.le_refl _, (fun x h => nomatch h), Oth.new hD⟩ (fun j H5 hj hW => ?_) (fun H5 hW => ?_)⟩
    · obtain ⟨bl, hD5, lb, hb, o5⟩ := hW
      have eki5 := o5.keep ki _ (by simp [ne_of_none eki hD]) eki
      have hjk : j < ks.length := by omega
      have gk : (ks.map V.str)[j]? = some (.str ks[j]) := by rw [List.getElem?_map, List.getElem?_eq_getElem hjk]; rfl
      have e0 : (0 : Int) + ((j : Nat) : Int) = ((j : Nat) : Int) := by omega
      rw [e0]
      refine ⟨rfl, _, rfl, _, rfl, ki, _, _, _, rfl, rfl, SqL.of eki5, atI_nat gk, rfl, _, rfl, ite2 (fun c => ?_) (fun c => ?_)⟩
      · refine ⟨_, rfl, _, hD5, Nat.lt_of_le_of_lt (by rw [intL_len]; omega : _ ≤ 12) (by decide), bl ++ [j], ?_, by rw [List.length_append, List.length_singleton]; omega, fun x hx => ?_, o5.trans (Oth.put (by simp) hD5)⟩
        · rw [upd_same]; simp [intL]
        · rcases List.mem_append.mp hx with h | h
          · exact hb x h
          · rw [List.mem_singleton.mp h]; exact hj
      · exact ⟨bl, hD5, by omega, hb, o5⟩
    obtain ⟨bl, hD5, lb, hb, o5⟩ := hW
    have o5' := Oth.drop o5 hD
    have bx5 := bx4.oth o5' (by simp) (by simp)
    have nbD := (bx4.nb hD)
    have npD : pa ≠ D := ne_of_none epa hD
    have nkD : ki ≠ D := ne_of_none eki hD
    have epa5 := o5'.keep pa _ (by simp) epa
    have eki5 := o5'.keep ki _ (by simp) eki
    have o45 : Oth [b, pa, ki] H H5 := o4.trans (o5'.mono (by simp))
    refine ⟨_, rfl, fun σ H6 => ∃ (x3 x4 : Option V) (p : Int), σ = [some (.ref b), some (.ref pa), some (.ref ki), x3, x4, some (.int p), none] ∧ (p = -1 ∨ ∃ j : Nat, j < i ∧ p = (j : Int)) ∧ Box H6 b d rest ∧ Oth [b] H5 H6, ?_, fun σ H6 hM => ?_⟩
    · refine ⟨_, rfl, D, _, rfl, .inl (SqL.of hD5), _, _, rfl, rfl, _, rfl, ite2 (fun c => ?_) (fun c => ?_)⟩
      · rw [intL_len] at c
        have c' : 0 < bl.length := by have := of_decide_eq_true c; omega
        refine ⟨_, rfl, b, d, _, rest, rfl, by decide, bx5, fun r1 H6 r10 r11 bx6 o6 => ⟨_, _, rfl, rfl, _, rfl, ite2 (fun c2 => ?_) (fun c2 => ?_)⟩⟩
        · have hD6 := o6.keep D _ (by simp [nbD.symm]) hD5
          refine ⟨_, rfl, _, rfl, _, rfl, D, _, rfl, .inl (SqL.of hD6), b, d, _, rest, rfl, by rw [intL_len]; omega, bx6, fun r2 H7 r20 r21 bx7 o7 => ?_⟩
          rw [intL_len] at r21
          have hD7 := o7.keep D _ (by simp [nbD.symm]) hD6
          obtain ⟨m, rfl⟩ : ∃ m : Nat, r2 = (m : Int) := ⟨r2.toNat, by omega⟩
          have hm : m < bl.length := by omega
          refine ⟨D, _, _, _, rfl, rfl, SqL.of hD7, atI_nat (by unfold intL; rw [List.getElem?_map, List.getElem?_eq_getElem hm]; rfl), ?_⟩
          exact ⟨_, _, _, rfl, .inr ⟨bl[m], hb _ (List.getElem_mem hm), rfl⟩, bx7, o6.trans o7⟩
        · exact ⟨_, _, _, rfl, .inl rfl, bx6, o6⟩
      · exact iteF ⟨_, _, _, rfl, .inl rfl, bx5, Oth.refl⟩
    · obtain ⟨x3, x4, p, rfl, hpp, bx6, o6⟩ := hM
      have epa6 := o6.keep pa _ (by simp [nbp.symm]) epa5
      have eki6 := o6.keep ki _ (by simp [nbk.symm]) eki5
      refine ⟨_, rfl, .inl ⟨rfl, _, SqL.of epa6⟩, _, rfl, pa, _, _, rfl, rfl, epa6, Nat.lt_of_le_of_lt (by rw [List.length_map]; omega : _ ≤ 12) (by decide), ?_⟩
      have o7 : Oth [b, pa, ki] H6 (upd H6 pa (.lst (ps.map V.int ++ [.int p]))) := Oth.put (by simp) epa6
      have bx7 := bx6.oth (Oth.put (S := [pa]) (by simp) epa6 : Oth [pa] H6 (upd H6 pa (.lst (ps.map V.int ++ [.int p])))) (by simp [nbp]) (by simp [ndp])
      have eki7 : (upd H6 pa (.lst (ps.map V.int ++ [.int p]))) ki = some (.lst (ks.map V.str)) := by rw [upd_ne npk.symm]; exact eki6
      have epa7 : (upd H6 pa (.lst (ps.map V.int ++ [.int p]))) pa = some (.lst (ps.map V.int ++ [.int p])) := upd_same
      have o47 : Oth [b, pa, ki] H (upd H6 pa (.lst (ps.map V.int ++ [.int p]))) := o45.trans ((o6.mono (by simp)).trans o7)
      generalize upd H6 pa (.lst (ps.map V.int ++ [.int p])) = H7 at bx7 eki7 epa7 o47
      refine ⟨_, rfl, .inl ⟨rfl, _, SqL.of eki7⟩, sz, fun l4 hl4 => ?_⟩
      have ol := Oth.new (S := []) (o := .lst [.str "box", .str "text", .str "text", .str "input"]) hl4
      have nbl := bx7.nb hl4
      refine ⟨_, rfl, b, d, _, rest, rfl, by decide, bx7.new hl4, fun r3 H8 r30 r31 bx8 o8 => ?_⟩
      have el8 := o8.keep l4 _ (by simp [nbl.symm]) (upd_same : (upd H7 l4 (.lst [.str "box", .str "text", .str "text", .str "input"])) l4 = _)
      have kd4 : ∃ s : Str, atI [V.str "box", .str "text", .str "text", .str "input"] r3 = some (.str s) ∧ (s = "box" ∨ s = "text" ∨ s = "input") := by
        have : r3 = 0 ∨ r3 = 1 ∨ r3 = 2 ∨ r3 = 3 := by omega
        rcases this with h | h | h | h <;> subst h
        · exact ⟨_, at0, .inl rfl⟩
        · exact ⟨_, at1, .inr (.inl rfl)⟩
        · exact ⟨_, at2, .inr (.inl rfl)⟩
        · exact ⟨_, at3, .inr (.inr rfl)⟩
      obtain ⟨s4, as4, hs4⟩ := kd4
      have eki8 := o8.keep ki _ (by simp [nbk.symm]) (ol.keep ki _ (by simp) eki7)
      have epa8 := o8.keep pa _ (by simp [nbp.symm]) (ol.keep pa _ (by simp) epa7)
      refine ⟨l4, _, _, _, rfl, rfl, SqL.of el8, as4, ki, _, _, rfl, rfl, eki8, Nat.lt_of_le_of_lt (by rw [List.length_map]; omega : _ ≤ 12) (by decide), ?_⟩
      have o9 : Oth [b, pa, ki] H8 (upd H8 ki (.lst (ks.map V.str ++ [.str s4]))) := Oth.put (by simp) eki8
      refine ⟨_, _, _, ps ++ [p], ks ++ [s4], rfl, by rw [List.length_append, lp]; rfl, by rw [List.length_append, lk]; rfl, fun k2 p2 h2 => ?_, fun s hs => ?_, by rw [upd_ne npk, List.map_append]; exact epa8, by rw [upd_same, List.map_append]; rfl, bx8.oth (Oth.put (S := [ki]) (by simp) eki8) (by simp [nbk]) (by simp [ndk]), o47.trans ((ol.mono (by simp)).trans ((o8.mono (by simp)).trans o9))⟩
      · rcases Nat.lt_or_ge k2 ps.length with h | h
        · rw [List.getElem?_append_left h] at h2
          exact hp k2 p2 h2
        · rw [List.getElem?_append_right h] at h2
          have : k2 - ps.length = 0 := by
            have := (List.getElem?_eq_some_iff.mp h2).1
            simp at this; omega
          rw [this] at h2
          cases h2
          rcases hpp with h3 | ⟨j, hj, e⟩
          · exact .inl h3
          · exact .inr ⟨j, by omega, e⟩
      · rcases List.mem_append.mp hs with h | h
        · exact hk s h
        · rw [List.mem_singleton.mp h]; exact hs4
  · obtain ⟨x3, x4, x5, ps, ks, rfl, lp, lk, hp, hk, epa, eki, bx4, o4⟩ := hW
    refine ⟨_, rfl, _, rfl, sz, fun r hr' => ?_⟩
    have or := Oth.new (S := []) (o := .lst [.ref pa, .ref ki]) hr'
    have nbr := bx4.nb hr'
    refine q r ⟨ps, ks⟩ _ ⟨by rw [lp, lk], by show 1 ≤ ps.length; omega, by show ps.length ≤ 12; omega, hp, hk⟩ ⟨pa, ki, upd_same, or.keep pa _ (by simp) epa, or.keep ki _ (by simp) eki, nbr.symm, nbp.symm, nbk.symm⟩ (bx4.new hr') ?_
    refine Oth.trans (S := [b]) ?_ (or.mono (by simp))
    exact ⟨fun a o n h => o4.keep a o (by simp; exact ⟨fun z => n (by rw [z]; simp), ne_of_none h hpa, ne_of_none h hkiH⟩) h, o4.tup⟩
end
section
variable {P : Program} {w : World} {K : PySem.W.Frag} {mg : Str → Option Value} {base : Heap}
theorem ok_here {f fR : Addr} {fd dR : FuncData} {k : Nat} (F : Fun K "_law_here" "_law_here" sLHere f fd)
    (GR : FnOk P w K mg base CX0 k fR dR ["box", "many"] spDraw) (bR : Binds K dR ["box", "many"] []) (kR : PySem.W.keepIn K (.ref fR) = true) (mR : mg "_law_draw" = some (.ref fR))
    (m_range : mg "range" = none) (m_len : mg "len" = none) :
    FnOk P w K mg base CX0 (k + 1) f fd ["box", "forest"] spHereT := by
  refine F.ok scLHere (fun vs H Q E h => ?_) (fun cdv A outer s H vs Q E' hr h => ?_)
  · obtain ⟨b, d, rest, fr, F, rfl, _⟩ := h
    rfl
  obtain ⟨b, d, rest, fr, Fo, rfl, bx, ok, fa, q⟩ := h
  have nd := scLHere.nd
  refine ⟨_, (pss_cons (ps_set (i := 2) nd rfl (.inl rfl) (pe_lst pa_nil))
  (pss_cons (ps_for PassesOwn.never rfl (pi_range1 (by rfl) m_range (pa_cons (pe_callB call_len_seq (by rfl) m_len PySem.boot_len (pa_cons (pe_ix ix_list (pv 1) pe_int (fun _ _ => rfl)) pa_nil)) pa_nil)) (pg_name (i := 3) nd rfl (.inl rfl))
  (pss_cons (ps_set (i := 4) nd rfl (.inl rfl) (pe_ix ix_list (pe_ix ix_list (pv 1) pe_int (fun _ _ => rfl)) (pv 3) (fun _ _ => rfl)))
  (pss_one (ps_expr (pe_bm PySem.F.plainAttrs_list PySem.F.slot_list_append PySem.F.type_list_append mt_append (pv 2) (pa_cons (pe_and (pe_cmpR op_gt (pe_call GR hr rfl mR kR bR .nil pass0 (pa_cons (pv 0) (pa_cons pe_int pa_nil))) pe_int (nomark _)) (pe_one (pe_or (pe_cmpR op_eq (pv 4) (pe_un un_neg pe_int) (nomark _)) (pe_one (pe_ix ix_list (pv 2) (pv 4) (fun _ _ => rfl)))))) pa_nil))))))
  (pss_one (ps_ret (pv 2))))), ?_⟩
  obtain ⟨pa, ki, h1, h2, h3, n1, n2, n3⟩ := fa
  refine ⟨sz, fun p hp => ?_⟩
  have op := Oth.new (S := []) (o := .lst []) hp
  have nbp := bx.nb hp
  have ndp := bx.nd hp
  have h1p := op.keep fr _ (by simp) h1
  have h2p := op.keep pa _ (by simp) h2
  have nfp : fr ≠ p := ne_of_none h1 hp
  have nap : pa ≠ p := ne_of_none h2 hp
  have l12 := ok.hi
  refine ⟨_, rfl, fr, _, _, _, rfl, rfl, SqL.of h1p, at0, pa, _, rfl, .inl (SqL.of h2p), _, rfl, by rw [List.length_map]; omega, by rw [List.length_map]; omega, ?_⟩
  rw [List.length_map]
  refine for_range (lo := 0) (n := Fo.ps.length)
    (fun i σ H1 => ∃ (x3 x4 : Option V) (bs : List Bool), σ = [some (.ref b), some (.ref fr), some (.ref p), x3, x4] ∧ bs.length = i ∧ H1 p = some (.lst (bs.map V.bl)) ∧ Box H1 b d rest ∧ Oth [b, p] H H1)
    ⟨none, none, [], rfl, rfl, upd_same, bx.new hp, op.mono (by simp)⟩ (fun i σ H1 hi hW => ?_) (fun σ H1 hW => ?_)
  · obtain ⟨x3, x4, bs, rfl, lb, hp1, bx1, o1⟩ := hW
    have e00 : (0 : Int) + ((i : Nat) : Int) = ((i : Nat) : Int) := by omega
    rw [e00]
    have h1' := o1.keep fr _ (by simp [n1, nfp]) h1
    have h2' := o1.keep pa _ (by simp [n2, nap]) h2
    have gp : (Fo.ps.map V.int)[i]? = some (.int Fo.ps[i]) := by rw [List.getElem?_map, List.getElem?_eq_getElem hi]; rfl
    refine ⟨_, rfl, fr, _, _, _, rfl, rfl, SqL.of h1', at0, _, rfl, pa, _, _, _, rfl, rfl, SqL.of h2', atI_nat gp, ?_⟩
    have fin : ∀ (c : Bool) (H2 : Hp), H2 p = some (.lst (bs.map V.bl)) → Box H2 b d rest → Oth [b, p] H H2 → ∃ (l : Addr) (ys : List V) (y : V), V.ref p = .ref l ∧ [V.bl c] = [y] ∧ H2 l = some (.lst ys) ∧ ys.length < sizeLine ∧
        ∃ (x3 x4 : Option V) (bs' : List Bool), ([some (.ref b), some (.ref fr), some (.ref p), some (.int (i : Int)), some (.int Fo.ps[i])] : L2.St) = [some (.ref b), some (.ref fr), some (.ref p), x3, x4] ∧ bs'.length = i + 1 ∧ (upd H2 l (.lst (ys ++ [y]))) p = some (.lst (bs'.map V.bl)) ∧ Box (upd H2 l (.lst (ys ++ [y]))) b d rest ∧ Oth [b, p] H (upd H2 l (.lst (ys ++ [y]))) := fun c H2 hp2 bx2 o2 => by
      refine ⟨p, _, _, rfl, rfl, hp2, Nat.lt_of_le_of_lt (by rw [List.length_map]; omega : _ ≤ 12) (by decide), _, _, bs ++ [c], rfl, by rw [List.length_append, lb]; rfl, by rw [upd_same, List.map_append]; rfl, bx2.oth (Oth.put (S := [p]) (by simp) hp2) (by simp [nbp]) (by simp [ndp]), o2.trans (Oth.put (by simp) hp2)⟩
    refine ⟨_, rfl, .inl ⟨rfl, _, SqL.of hp1⟩, _, rfl, b, d, _, rest, rfl, by decide, bx1, fun r H2 r0 r1 bx2 o2 => ?_⟩
    have hp2 := o2.keep p _ (by simp [nbp.symm]) hp1
    have o12 := o1.trans (o2.mono (S' := [b, p]) (by simp))
    refine ⟨_, _, rfl, rfl, _, rfl, ite2 (fun c => ?_) (fun c => ?_)⟩
    · refine ⟨_, rfl, _, rfl, rfl, _, rfl, ite2 (fun c2 => ?_) (fun c2 => ?_)⟩
      · exact fin true H2 hp2 bx2 o12
      · rcases ok.par i _ (List.getElem?_eq_getElem hi) with e | ⟨j, hj, e⟩
        · exact absurd (by rw [e]; rfl) c2
        · have gb : (bs.map V.bl)[j]? = some (.bl bs[j]) := by rw [List.getElem?_map, List.getElem?_eq_getElem]; rfl
          refine ⟨_, rfl, _, rfl, p, _, _, _, rfl, rfl, SqL.of hp2, by rw [e]; exact atI_nat gb, ?_⟩
          exact fin _ H2 hp2 bx2 o12
    · exact fin false H2 hp2 bx2 o12
  · obtain ⟨x3, x4, bs, rfl, lb, hp1, bx1, o1⟩ := hW
    exact ⟨_, rfl, q p bs H1 lb hp1 nbp.symm bx1 (Oth.drop2 o1 hp)⟩
end
abbrev sLArr : Stmt := topS 12
theorem scLArr : FnScope ["box", "forest", "here", "texts", "parent", "rows", "nodes", "turn", "k"] ["box", "forest", "here", "texts", "parent"] (defScope sLArr) := ⟨rfl, rfl, rfl, by decide +kernel, rfl, by decide +kernel, by decide +kernel⟩
section
variable {P : Program} {w : World} {K : PySem.W.Frag} {mg : Str → Option Value} {base : Heap}
theorem ok_arr {f fR : Addr} {fd dR : FuncData} {k m : Nat} (F : Fun K "_law_arranged" "_law_arranged" sLArr f fd)
    (GLa : FnOk P w K mg base CX0 k f fd ["box", "forest", "here", "texts", "parent"] (spArrT m)) (bLa : Binds K fd ["box", "forest", "here", "texts", "parent"] []) (kLa : PySem.W.keepIn K (.ref f) = true) (mLa : mg "_law_arranged" = some (.ref f))
    (GR : FnOk P w K mg base CX0 k fR dR ["box", "many"] spDraw) (bR : Binds K dR ["box", "many"] []) (kR : PySem.W.keepIn K (.ref fR) = true) (mR : mg "_law_draw" = some (.ref fR))
    (m_range : mg "range" = none) (m_len : mg "len" = none) (m_int : mg "int" = none) (m_tuple : mg "tuple" = none) :
    FnOk P w K mg base CX0 (k + 1) f fd ["box", "forest", "here", "texts", "parent"] (spArrT (m + 1)) := by
  refine F.ok scLArr (fun vs H Q E h => ?_) (fun cdv A outer s H vs Q E' hr h => ?_)
  · obtain ⟨b, d, rest, fr, Fo, hh, tt, bs, ts, p, rfl, _⟩ := h
    rfl
  obtain ⟨b, d, rest, fr, Fo, hh, tt, bs, ts, p, rfl, bx, ok, fa, eh, nh, lb, et, nt, lt, st, fuel, lowp, q⟩ := h
  have nd := scLArr.nd
  refine ⟨_, (pss_cons (ps_setLc (i := 5) (own := [("k", 8)]) (g := gName 8) rfl nd rfl rfl (sw_true rfl rfl rfl (by decide +kernel)) (pi_range1 (by rfl) m_range (pa_cons (pe_callB call_len_seq (by rfl) m_len PySem.boot_len (pa_cons (pv 2) pa_nil)) pa_nil)) (blkOk_by (N := ["box", "forest", "here", "texts", "parent", "rows", "nodes", "turn", "k"]) (sc := defScope sLArr) (by decide +kernel)) (fun _ _ _ _ _ => (pg_name (i := 8) nd rfl (.inl rfl))) (fun _ _ _ _ _ => pts_one (PW.pt (pw_and (pt_val (pe_ix (r := rIxL K) ix_list (pv 2) (pv 8) (fun _ _ => rfl))) (pw_and1 (pt_cmpR op_eq (pe_ix (r := rIxL K) ix_list (pe_ix (r := rIxL K) ix_list (pv 1) pe_int (fun _ _ => rfl)) (pv 8) (fun _ _ => rfl)) (pv 4) (nomark _)))))) (fun _ _ _ _ _ => (pv 8)))
  (pss_cons (ps_set (i := 6) nd rfl (.inl rfl) (pe_lst pa_nil))
  (pss_cons (ps_for PassesOwn.never rfl (pi_range1 (by rfl) m_range (pa_cons (pe_callB call_len_seq (by rfl) m_len PySem.boot_len (pa_cons (pv 5) pa_nil)) pa_nil)) (pg_name (i := 7) nd rfl (.inl rfl))
  (pss_cons (ps_set (i := 8) nd rfl (.inl rfl) (pe_bm PySem.F.plainAttrs_list PySem.F.slot_list_pop PySem.F.type_list_pop mt_popAt (pv 5) (pa_cons (pe_call GR hr rfl mR kR bR .nil pass0 (pa_cons (pv 0) (pa_cons (pe_callB call_len_seq (by rfl) m_len PySem.boot_len (pa_cons (pv 5) pa_nil)) pa_nil))) pa_nil)))
  (pss_one (ps_if (pt_cmpR op_eq (pe_ix ix_list (pe_ix ix_list (pv 1) pe_int (fun _ _ => rfl)) (pv 8) (fun _ _ => rfl)) pe_str (nomark _))
  (pss_one (ps_expr (pe_bm PySem.F.plainAttrs_list PySem.F.slot_list_append PySem.F.type_list_append mt_append (pv 6) (pa_cons (pe_tup (pa_cons pe_str (pa_cons (pv 8) (pa_cons (pe_ix ix_list (pv 3) (pv 8) (fun _ _ => rfl)) pa_nil)))) pa_nil))))
  (pss_one (ps_if (pt_cmpR op_eq (pe_ix ix_list (pe_ix ix_list (pv 1) pe_int (fun _ _ => rfl)) (pv 8) (fun _ _ => rfl)) pe_str (nomark _))
  (pss_one (ps_expr (pe_bm PySem.F.plainAttrs_list PySem.F.slot_list_append PySem.F.type_list_append mt_append (pv 6) (pa_cons (pe_tup (pa_cons pe_str (pa_cons (pv 8) (pa_cons pe_str (pa_cons (pe_callB call_len_str (by rfl) m_len PySem.boot_len (pa_cons (pe_ix ix_list (pv 3) (pv 8) (fun _ _ => rfl)) pa_nil)) pa_nil))))) pa_nil))))
  (pss_one (ps_expr (pe_bm PySem.F.plainAttrs_list PySem.F.slot_list_append PySem.F.type_list_append mt_append (pv 6) (pa_cons (pe_tup (pa_cons pe_str (pa_cons (pv 8) (pa_cons (pe_ix ix_list (pe_lst (pa_cons pe_str (pa_cons pe_str pa_nil))) (pe_op op_mod (pe_callTy call_int1 (by rfl) m_int bo_int (pa_cons (pv 8) pa_nil)) pe_int) (fun _ _ => rfl)) (pa_cons (pe_call GLa hr rfl mLa kLa bLa .nil pass0 (pa_cons (pv 0) (pa_cons (pv 1) (pa_cons (pv 2) (pa_cons (pv 3) (pa_cons (pv 8) pa_nil)))))) pa_nil))))) pa_nil))))))))))
  (pss_one (ps_ret (pe_tupleOf (by rfl) m_tuple (pv 6))))))), ?_⟩
  have l12 := ok.hi
  have fa0 := fa
  obtain ⟨pa, ki, h1, h2, h3, n1, n2, n3⟩ := fa
  -- those that stand here
  refine ⟨_, rfl, hh, _, rfl, .inl (SqL.of eh), _, rfl, by rw [List.length_map]; omega, by rw [List.length_map]; omega, ?_⟩
  rw [List.length_map, lb]
  refine fun R hR => lc_range (lo := 0) (n := Fo.ps.length)
    (fun i H1 => ∃ rl : List Nat, H1 R = some (.lst (intL rl)) ∧ rl.length ≤ i ∧ rl.Nodup ∧ (∀ x ∈ rl, x < i ∧ Fo.up x = p) ∧ Oth [R] H H1)
    ⟨[], upd_same, Nat.le_refl _, .nil, (fun x h => nomatch h), Oth.new hR⟩ (fun i H1 hi hW => ?_) (fun H1 hW => ?_)
  · obtain ⟨rl, hR1, lr, ndr, hrl, o1⟩ := hW
    have e00 : (0 : Int) + ((i : Nat) : Int) = ((i : Nat) : Int) := by omega
    rw [e00]
    have eh1 := o1.keep hh _ (by simp [ne_of_none eh hR]) eh
    have h11 := o1.keep fr _ (by simp [ne_of_none h1 hR]) h1
    have h21 := o1.keep pa _ (by simp [ne_of_none h2 hR]) h2
    have gb : (bs.map V.bl)[i]? = some (.bl bs[i]) := by rw [List.getElem?_map, List.getElem?_eq_getElem]; rfl
    have gp : (Fo.ps.map V.int)[i]? = some (.int Fo.ps[i]) := by rw [List.getElem?_map, List.getElem?_eq_getElem hi]; rfl
    have no : ∃ rl : List Nat, H1 R = some (.lst (intL rl)) ∧ rl.length ≤ i + 1 ∧ rl.Nodup ∧ (∀ x ∈ rl, x < i + 1 ∧ Fo.up x = p) ∧ Oth [R] H H1 := ⟨rl, hR1, by omega, ndr, fun x hx => ⟨by have := (hrl x hx).1; omega, (hrl x hx).2⟩, o1⟩
    refine ⟨rfl, _, rfl, _, rfl, hh, _, _, _, rfl, rfl, SqL.of eh1, atI_nat gb, _, rfl, ite2 (fun c => ?_) (fun c => iteF no)⟩
    refine ⟨_, rfl, fr, _, _, _, rfl, rfl, SqL.of h11, at0, _, rfl, pa, _, _, _, rfl, rfl, SqL.of h21, atI_nat gp, _, rfl, rfl, _, rfl, ite2 (fun c2 => ?_) (fun c2 => no)⟩
    have c2' : Fo.ps[i] = pI p := by
      have := of_decide_eq_true c2
      injection this
    have hu : Fo.up i = p := (up_pI ok (List.getElem?_eq_getElem hi) p).mp c2'
    refine ⟨_, rfl, _, hR1, Nat.lt_of_le_of_lt (by rw [intL_len]; omega : _ ≤ 12) (by decide), rl ++ [i], by rw [upd_same]; simp [intL], by rw [List.length_append, List.length_singleton]; omega, ?_, fun x hx => ?_, o1.trans (Oth.put (by simp) hR1)⟩
    · exact List.nodup_append.mpr ⟨ndr, (List.pairwise_singleton _ _), fun u hu v hv z => by rw [List.mem_singleton.mp hv] at z; have := (hrl u hu).1; omega⟩
    · rcases List.mem_append.mp hx with h | h
      · exact ⟨by have := (hrl x h).1; omega, (hrl x h).2⟩
      · rw [List.mem_singleton.mp h]; exact ⟨by omega, hu⟩
  obtain ⟨rl0, hR1, lr0, ndr0, hrl0, o1⟩ := hW
  have o1' := Oth.drop o1 hR
  refine ⟨sz, fun g hg => ?_⟩
  have og := Oth.new (S := []) (o := .lst []) hg
  have nRg : R ≠ g := ne_of_none hR1 hg
  have hgH := back o1' hg (by simp)
  have nbR := bx.nb hR
  have ndR := bx.nd hR
  have nbg := bx.nb hgH
  have ndg := bx.nd hgH
  have hR2 := og.keep R _ (by simp) hR1
  refine ⟨_, rfl, R, _, rfl, .inl (SqL.of hR2), _, rfl, by rw [intL_len]; omega, by rw [intL_len]; omega, ?_⟩
  rw [intL_len]
  refine for_range (lo := 0) (n := rl0.length)
    (fun i σ H3 => ∃ (x7 x8 : Option V) (rl : List Nat) (ns : List Sn) (out : List V), σ = [some (.ref b), some (.ref fr), some (.ref hh), some (.ref tt), some (.int (pI p)), some (.ref R), some (.ref g), x7, x8] ∧
      rl.length + i = rl0.length ∧ rl.Nodup ∧ (∀ x ∈ rl, x < Fo.ps.length ∧ Fo.up x = p) ∧ (∀ x ∈ rl, x ∉ nums ns) ∧ FitAt Fo p ns ∧ Sn.hts ns < m + 1 ∧ ns.length = i ∧
      H3 R = some (.lst (intL rl)) ∧ H3 g = some (.lst out) ∧ Paired (IsT H3) (Sn.toTs ns) out ∧ Box H3 b d rest ∧ Oth [b, R, g] H H3)
    ⟨none, none, rl0, [], [], rfl, rfl, ndr0, hrl0, (fun x _ h => nomatch h), FitAt.nil _ _, Nat.succ_pos _, rfl, hR2, upd_same, .nil, (bx.oth o1' (by simp) (by simp)).new hg, (o1'.trans og).mono (by simp)⟩ (fun i σ H3 hi hW => ?_) (fun σ H3 hW => ?_)
  · obtain ⟨x7, x8, rl, ns, out, rfl, lrl, ndr, hrl, hdj, fit, hts, lns, hR3, hg3, po3, bx3, o3⟩ := hW
    have lout : out.length = i := by rw [(paired_get po3).1, Sn.toTs_map, List.length_map, lns]
    refine ⟨_, rfl, .inl ⟨rfl, _, SqL.of hR3⟩, _, rfl, _, rfl, R, _, rfl, .inl (SqL.of hR3), b, d, _, rest, rfl, by rw [intL_len]; omega, bx3, fun r H4 r0 r1 bx4 o4 => ?_⟩
    rw [intL_len] at r1
    obtain ⟨rr, rfl⟩ : ∃ rr : Nat, r = (rr : Int) := ⟨r.toNat, by omega⟩
    have hrr : rr < rl.length := by omega
    obtain ⟨x, gx⟩ : ∃ x, rl[rr]? = some x := ⟨_, List.getElem?_eq_getElem hrr⟩
    have hR4 := o4.keep R _ (by simp [nbR.symm]) hR3
    refine ⟨R, _, _, rr, .int (x : Int), rfl, rfl, hR4, by omega, by omega, (ixN_seq (ixN_at (by rw [intL_len]; exact hrr))).1, by unfold intL; rw [List.getElem?_map, gx]; rfl, ?_⟩
    rw [intL_erase]
    obtain ⟨er1, er2, er3, er4⟩ := erase_ok ndr gx
    have oR : Oth [b, R, g] H4 (upd H4 R (.lst (intL (rl.eraseIdx rr)))) := Oth.put (by simp) hR4
    have hx := hrl x (List.mem_of_getElem? gx)
    have hxd := hdj x (List.mem_of_getElem? gx)
    have bx5 := bx4.oth (Oth.put (S := [R]) (o := .lst (intL (rl.eraseIdx rr))) (by simp) hR4) (by simp [nbR]) (by simp [ndR])
    have hR5 : (upd H4 R (.lst (intL (rl.eraseIdx rr)))) R = some (.lst (intL (rl.eraseIdx rr))) := upd_same
    have hg5 : (upd H4 R (.lst (intL (rl.eraseIdx rr)))) g = some (.lst out) := by rw [upd_ne nRg.symm]; exact o4.keep g _ (by simp [nbg.symm]) hg3
    have po5 := paired_oth (paired_oth po3 o4) oR
    have o5 : Oth [b, R, g] H (upd H4 R (.lst (intL (rl.eraseIdx rr)))) := o3.trans ((o4.mono (by simp)).trans oR)
    generalize upd H4 R (.lst (intL (rl.eraseIdx rr))) = H5 at bx5 hR5 hg5 po5 o5
    have hS : ∀ y ∈ [b, R, g], y = b ∨ H y = none := fun y hy => by
      simp only [List.mem_cons, List.not_mem_nil, or_false] at hy
      rcases hy with rfl | rfl | rfl
      · exact .inl rfl
      · exact .inr hR
      · exact .inr hgH
    have h15 := kp o5 h1 n1 hS
    have h35 := kp o5 h3 n3 hS
    have et5 := kp o5 et nt hS
    have gkx : x < Fo.ks.length := by rw [ok.same]; exact hx.1
    have gk : (Fo.ks.map V.str)[x]? = some (.str Fo.ks[x]) := by rw [List.getElem?_map, List.getElem?_eq_getElem gkx]; rfl
    have gtx : x < ts.length := by omega
    have gt : (ts.map V.str)[x]? = some (.str ts[x]) := by rw [List.getElem?_map, List.getElem?_eq_getElem gtx]; rfl
    have kx : Fo.kind x = kdS Fo.ks[x] := by unfold Fst.kind; rw [List.getD_eq_getElem?_getD, List.getElem?_eq_getElem gkx]; rfl
    -- a node is put
    have fin : ∀ (n : Sn) (t : Addr) (H6 : Hp), n.num = x → KindAt Fo n → FitAt Fo (some x) n.kids → n.ht < m + 1 → IsT H6 n.toT (.ref t) → H6 R = some (.lst (intL (rl.eraseIdx rr))) → H6 g = some (.lst out) → Paired (IsT H6) (Sn.toTs ns) out → Box H6 b d rest → Oth [b, R, g] H H6 →
        ∃ (l : Addr) (ys : List V) (y : V), V.ref g = .ref l ∧ [V.ref t] = [y] ∧ H6 l = some (.lst ys) ∧ ys.length < sizeLine ∧
        ∃ (x7 x8 : Option V) (rl : List Nat) (ns : List Sn) (out : List V), ([some (.ref b), some (.ref fr), some (.ref hh), some (.ref tt), some (.int (pI p)), some (.ref R), some (.ref g), some (.int (0 + (i : Int))), some (.int (x : Int))] : L2.St) = [some (.ref b), some (.ref fr), some (.ref hh), some (.ref tt), some (.int (pI p)), some (.ref R), some (.ref g), x7, x8] ∧
          rl.length + (i + 1) = rl0.length ∧ rl.Nodup ∧ (∀ x ∈ rl, x < Fo.ps.length ∧ Fo.up x = p) ∧ (∀ x ∈ rl, x ∉ nums ns) ∧ FitAt Fo p ns ∧ Sn.hts ns < m + 1 ∧ ns.length = i + 1 ∧
          (upd H6 l (.lst (ys ++ [y]))) R = some (.lst (intL rl)) ∧ (upd H6 l (.lst (ys ++ [y]))) g = some (.lst out) ∧ Paired (IsT (upd H6 l (.lst (ys ++ [y])))) (Sn.toTs ns) out ∧ Box (upd H6 l (.lst (ys ++ [y]))) b d rest ∧ Oth [b, R, g] H (upd H6 l (.lst (ys ++ [y]))) := fun n t H6 en ek ef eh tn hR6 hg6 po6 bx6 o6 => by
      have og6 : Oth [g] H6 (upd H6 g (.lst (out ++ [.ref t]))) := Oth.put (by simp) hg6
      refine ⟨g, out, .ref t, rfl, rfl, hg6, Nat.lt_of_le_of_lt (by omega : _ ≤ 12) (by decide), _, _, rl.eraseIdx rr, ns ++ [n], out ++ [.ref t], rfl, by omega, er1, fun y hy => hrl y (er3 y hy), fun y hy z => ?_, fit.snoc (by rw [en]; exact hx.1) (by rw [en]; exact hx.2) ek (by rw [en]; exact hxd) (by rw [en]; exact ef), by rw [hts_snoc]; omega, by rw [List.length_append, lns]; rfl, by rw [upd_ne nRg]; exact hR6, upd_same, ?_, bx6.oth og6 (by simp [nbg]) (by simp [ndg]), o6.trans (og6.mono (by simp))⟩
      · unfold nums at z
        rw [List.map_append, List.map_singleton] at z
        rcases List.mem_append.mp z with z | z
        · exact hdj y (er3 y hy) z
        · rw [List.mem_singleton.mp z, en] at hy; exact er2 hy
      · rw [Sn.toTs_map, List.map_append, ← Sn.toTs_map]
        exact paired_app (paired_oth po6 og6) (.cons (tn.oth og6) .nil)
    refine ⟨_, rfl, fr, _, _, _, rfl, rfl, SqL.of h15, at1, _, rfl, ki, _, _, _, rfl, rfl, SqL.of h35, atI_nat gk, rfl, _, rfl, ite2 (fun c => ?_) (fun c => ?_)⟩
    · have ek : Fo.ks[x] = "text" := by
        have := of_decide_eq_true c
        injection this
      refine ⟨_, rfl, .inl ⟨rfl, _, SqL.of hg5⟩, _, rfl, _, rfl, _, rfl, tt, _, _, _, rfl, rfl, SqL.of et5, atI_nat gt, sz, fun t ht => ?_⟩
      have ot := Oth.new (S := []) (o := .tup [.str "text", .int (x : Int), .str ts[x]]) ht
      exact fin (.text x ts[x]) t _ rfl ⟨by show _ = Fo.kind x; rw [kx, ek]; rfl, (fun _ _ _ h => nomatch h), fun k s h => by injection h with h1 h2; rw [← h2]; exact (st _ (List.getElem_mem gtx)).2⟩ (FitAt.nil _ _) (Nat.succ_pos _) (.mk3 upd_same (.str _) (.int _) (.str _)) (ot.keep R _ (by simp) hR5) (ot.keep g _ (by simp) hg5) (paired_oth po5 ot) (bx5.new ht) (o5.trans (ot.mono (by simp)))
    · refine ⟨_, rfl, fr, _, _, _, rfl, rfl, SqL.of h15, at1, _, rfl, ki, _, _, _, rfl, rfl, SqL.of h35, atI_nat gk, rfl, _, rfl, ite2 (fun c2 => ?_) (fun c2 => ?_)⟩
      · have ek : Fo.ks[x] = "input" := by
          have := of_decide_eq_true c2
          injection this
        have s3 := (st ts[x] (List.getElem_mem gtx)).1
        refine ⟨_, rfl, .inl ⟨rfl, _, SqL.of hg5⟩, _, rfl, _, rfl, _, rfl, tt, _, _, _, rfl, rfl, SqL.of et5, atI_nat gt, ts[x], rfl, Nat.le_trans s3 (by decide), sz, fun t ht => ?_⟩
        have ot := Oth.new (S := []) (o := .tup [.str "input", .int (x : Int), .str "q", .int (ts[x].length : Int)]) ht
        exact fin (.input x (ts[x].length : Int)) t _ rfl ⟨by show _ = Fo.kind x; rw [kx, ek]; rfl, (fun _ _ _ h => nomatch h), fun _ _ h => nomatch h⟩ (FitAt.nil _ _) (Nat.succ_pos _) (.mk4 upd_same (.str _) (.int _) (.str _) (.int _)) (ot.keep R _ (by simp) hR5) (ot.keep g _ (by simp) hg5) (paired_oth po5 ot) (bx5.new ht) (o5.trans (ot.mono (by simp)))
      · have ek : Fo.ks[x] = "box" := by
          rcases ok.kd _ (List.getElem_mem gkx) with h | h | h
          · exact h
          · exact absurd (by rw [h]; rfl) c
          · exact absurd (by rw [h]; rfl) c2
        refine ⟨_, rfl, .inl ⟨rfl, _, SqL.of hg5⟩, _, rfl, sz, fun l2 hl2 => ?_⟩
        have ol := Oth.new (S := []) (o := .lst [.str "p", .str "div"]) hl2
        have bx6 := bx5.new hl2 (o := .lst [.str "p", .str "div"])
        have o6 : Oth [b, R, g] H (upd H5 l2 (.lst [.str "p", .str "div"])) := o5.trans (ol.mono (by simp))
        have tg : ∃ s : Str, atI [V.str "p", .str "div"] ((x : Int) % 2) = some (.str s) ∧ s = tagOf x := by
          have : (x : Int) % 2 = 0 ∨ (x : Int) % 2 = 1 := by omega
          rcases this with h | h <;> rw [h]
          · exact ⟨_, at0, by unfold tagOf; rw [if_pos (by omega)]⟩
          · exact ⟨_, at1, by unfold tagOf; rw [if_neg (by omega)]⟩
        obtain ⟨tag, etag, htag⟩ := tg
        have fa6 := fa0.oth o6 hS
        refine ⟨_, rfl, .inl ⟨_, rfl, _, _, rfl, rfl, (by decide : (0 : Int) < 2), l2, _, _, _, rfl, rfl, SqL.of upd_same, etag, ?_⟩⟩
        refine ⟨_, rfl, _, rfl, _, rfl, _, rfl, _, rfl, b, d, rest, fr, Fo, hh, tt, bs, ts, some x, rfl, bx6, ok, fa6, kp o6 eh nh hS, nh, lb, kp o6 et nt hS, nt, lt, st, ?_, ?_, fun r ns2 H7 fit2 hts2 tr bx7 o7 => ⟨sz, fun t ht => ?_⟩⟩
        · have := up_low ok hx.1
          rw [hx.2] at this
          show Fo.ps.length < m + (x + 1)
          omega
        · show x + 1 ≤ Fo.ps.length
          omega
        · have ot := Oth.new (S := []) (o := .tup [.str "box", .int (x : Int), .str tag, r]) ht
          have hR6 := ol.keep R _ (by simp) hR5
          have hg6 := ol.keep g _ (by simp) hg5
          exact fin (.box x tag ns2) t _ rfl ⟨by show _ = Fo.kind x; rw [kx, ek]; rfl, (fun k t ns h => by injection h with h1 h2 h3; rw [← h1, ← h2]; exact htag), fun _ _ h => nomatch h⟩ fit2 (by show Sn.hts ns2 + 1 < m + 1; omega) (.mk4 upd_same (.str _) (.int _) (.str _) (tr.oth ot)) (ot.keep R _ (by simp) (o7.keep R _ (by simp [nbR.symm]) hR6)) (ot.keep g _ (by simp) (o7.keep g _ (by simp [nbg.symm]) hg6)) (paired_oth (paired_oth (paired_oth po5 ol) o7) ot) (bx7.new ht) (o6.trans ((o7.mono (by simp)).trans (ot.mono (by simp))))
  · obtain ⟨x7, x8, rl, ns, out, rfl, lrl, ndr, hrl, hdj, fit, hts, lns, hR3, hg3, po3, bx3, o3⟩ := hW
    refine ⟨_, rfl, .inl ⟨g, _, rfl, SqL.of hg3, fun t ht => ?_⟩⟩
    have ot := Oth.new (S := []) (o := .tup out) ht
    refine q _ ns _ fit hts (.mk upd_same (paired_oth po3 ot)) (bx3.new ht) ?_
    refine Oth.trans (S := [b]) ?_ (ot.mono (by simp))
    exact ⟨fun a o n h => o3.keep a o (by simp; exact ⟨fun z => n (by rw [z]; simp), ne_of_none h hR, ne_of_none h hgH⟩) h, o3.tup⟩
end
abbrev sLTwo : Stmt := topS 14
theorem scLTwo : FnScope ["box", "forest", "texts", "before", "other", "after", "k"] ["box"] (defScope sLTwo) := ⟨rfl, rfl, rfl, by decide +kernel, rfl, by decide +kernel, by decide +kernel⟩
section
variable {P : Program} {w : World} {K : PySem.W.Frag} {mg : Str → Option Value} {base : Heap}
theorem ok_two {f fR fF fH fA : Addr} {fd dR dF dH dA : FuncData} {k : Nat} (F : Fun K "_law_two_trees" "_law_two_trees" sLTwo f fd)
    (GR : FnOk P w K mg base CX0 k fR dR ["box", "many"] spDraw) (bR : Binds K dR ["box", "many"] []) (kR : PySem.W.keepIn K (.ref fR) = true) (mR : mg "_law_draw" = some (.ref fR))
    (GLf : FnOk P w K mg base CX0 k fF dF ["box"] spForestT) (bLf : Binds K dF ["box"] []) (kLf : PySem.W.keepIn K (.ref fF) = true) (mLf : mg "_law_forest" = some (.ref fF))
    (GLh : FnOk P w K mg base CX0 k fH dH ["box", "forest"] spHereT) (bLh : Binds K dH ["box", "forest"] []) (kLh : PySem.W.keepIn K (.ref fH) = true) (mLh : mg "_law_here" = some (.ref fH))
    (GLa : FnOk P w K mg base CX0 k fA dA ["box", "forest", "here", "texts", "parent"] (spArrT 13)) (bLa : Binds K dA ["box", "forest", "here", "texts", "parent"] []) (kLa : PySem.W.keepIn K (.ref fA) = true) (mLa : mg "_law_arranged" = some (.ref fA))
    (m_range : mg "range" = none) (m_len : mg "len" = none) (m_int : mg "int" = none) :
    FnOk P w K mg base CX0 (k + 1) f fd ["box"] spTwoB := by
  refine F.ok scLTwo (fun vs H Q E h => ?_) (fun cdv A outer s H vs Q E' hr h => ?_)
  · obtain ⟨b, d, rest, rfl, _⟩ := h
    rfl
  obtain ⟨b, d, rest, rfl, bx, q⟩ := h
  have nd := scLTwo.nd
  refine ⟨_, (pss_cons (ps_set (i := 1) nd rfl (.inl rfl) (pe_call GLf hr rfl mLf kLf bLf .nil pass0 (pa_cons (pv 0) pa_nil)))
  (pss_cons (ps_set (i := 2) nd rfl (.inr rfl) (pe_lc (own := [("k", 6)]) (g := gName 6) (tt := tYes) rfl nd (pi_range1 (by rfl) m_range (pa_cons (pe_callB call_len_seq (by rfl) m_len PySem.boot_len (pa_cons (pe_ix ix_list (pv 1) pe_int (fun _ _ => rfl)) pa_nil)) pa_nil)) (blkOk_by (N := ["box", "forest", "texts", "before", "other", "after", "k"]) (sc := defScope sLTwo) (by decide +kernel)) (fun _ _ _ _ _ => (pg_name (i := 6) nd rfl (.inl rfl))) (fun _ _ _ _ _ => pts_nil) (fun _ _ _ _ _ => (pe_ix (r := rIxL K) ix_list (pe_lst (pa_cons pe_str (pa_cons pe_str (pa_cons pe_str pa_nil)))) (pe_call GR hr rfl mR kR bR .nil pass0 (pa_cons (pv 0) (pa_cons pe_int pa_nil))) (fun _ _ => rfl)))))
  (pss_cons (ps_set (i := 3) nd rfl (.inl rfl) (pe_call GLa hr rfl mLa kLa bLa .nil pass0 (pa_cons (pv 0) (pa_cons (pv 1) (pa_cons (pe_call GLh hr rfl mLh kLh bLh .nil pass0 (pa_cons (pv 0) (pa_cons (pv 1) pa_nil))) (pa_cons (pv 2) (pa_cons (pe_un un_neg pe_int) pa_nil)))))))
  (pss_cons (ps_setLc (i := 4) (own := [("k", 6)]) (g := gName 6) (tt := tYes) rfl nd rfl rfl (sw_true rfl rfl rfl (by decide +kernel)) (pi_range1 (by rfl) m_range (pa_cons (pe_callB call_len_seq (by rfl) m_len PySem.boot_len (pa_cons (pv 2) pa_nil)) pa_nil)) (blkOk_by (N := ["box", "forest", "texts", "before", "other", "after", "k"]) (sc := defScope sLTwo) (by decide +kernel)) (fun _ _ _ _ _ => (pg_name (i := 6) nd rfl (.inl rfl))) (fun _ _ _ _ _ => pts_nil) (fun _ _ _ _ _ => (pe_ix (r := rIxL K) ix_list (pe_lst (pa_cons (pe_ix (r := rIxL K) ix_list (pv 2) (pv 6) (fun _ _ => rfl)) (pa_cons pe_str pa_nil))) (pe_callTy call_int1 (by rfl) m_int bo_int (pa_cons (pe_cmpR op_eq (pe_call GR hr rfl mR kR bR .nil pass0 (pa_cons (pv 0) (pa_cons pe_int pa_nil))) pe_int (nomark _)) pa_nil)) (fun _ _ => rfl))))
  (pss_cons (ps_set (i := 5) nd rfl (.inl rfl) (pe_call GLa hr rfl mLa kLa bLa .nil pass0 (pa_cons (pv 0) (pa_cons (pv 1) (pa_cons (pe_call GLh hr rfl mLh kLh bLh .nil pass0 (pa_cons (pv 0) (pa_cons (pv 1) pa_nil))) (pa_cons (pv 4) (pa_cons (pe_un un_neg pe_int) pa_nil)))))))
  (pss_one (ps_ret (pe_lst (pa_cons (pv 3) (pa_cons (pv 5) pa_nil)))))))))), ?_⟩
  refine ⟨_, rfl, b, d, rest, rfl, bx, fun fr Fo H1 ok fa bx1 o1 => ?_⟩
  have fa0 := fa
  obtain ⟨pa, ki, h1, h2, h3, n1, n2, n3⟩ := fa
  have l12 := ok.hi
  -- the texts
  refine ⟨_, rfl, fr, _, _, _, rfl, rfl, SqL.of h1, at0, pa, _, rfl, .inl (SqL.of h2), _, rfl, by rw [List.length_map]; omega, by rw [List.length_map]; omega, ?_⟩
  rw [List.length_map]
  refine fun D hD => lc_range (lo := 0) (n := Fo.ps.length)
    (fun i H2 => ∃ ts : List Str, H2 D = some (.lst (ts.map V.str)) ∧ ts.length = i ∧ (∀ s ∈ ts, TxOk s) ∧ Box H2 b d rest ∧ Oth [b, D] H1 H2)
    ⟨[], upd_same, rfl, (fun s h => nomatch h), bx1.new hD, Oth.new hD⟩ (fun i H2 hi hW => ?_) (fun H2 hW => ?_)
  · obtain ⟨ts, hD2, lt, ht, bx2, o2⟩ := hW
    have nbD := bx1.nb hD
    have ndD := bx1.nd hD
    refine ⟨rfl, sz, fun l hl => ?_⟩
    have ol := Oth.new (S := []) (o := .lst [.str "a", .str "b", .str "cc"]) hl
    have nbl := bx2.nb hl
    refine ⟨_, rfl, b, d, _, rest, rfl, by decide, bx2.new hl, fun r H3 r0 r1 bx3 o3 => ?_⟩
    have el := o3.keep l _ (by simp [nbl.symm]) (upd_same : (upd H2 l (.lst [.str "a", .str "b", .str "cc"])) l = _)
    have g3 : ∃ s : Str, atI [V.str "a", .str "b", .str "cc"] r = some (.str s) ∧ TxOk s := by
      have : r = 0 ∨ r = 1 ∨ r = 2 := by omega
      rcases this with h | h | h <;> subst h
      · exact ⟨_, at0, tx_a⟩
      · exact ⟨_, at1, tx_b⟩
      · exact ⟨_, at2, tx_cc⟩
    obtain ⟨s, as, ls⟩ := g3
    have hD3 := o3.keep D _ (by simp [nbD.symm]) (ol.keep D _ (by simp) hD2)
    refine ⟨l, _, _, _, rfl, rfl, SqL.of el, as, _, hD3, Nat.lt_of_le_of_lt (by rw [List.length_map]; omega : _ ≤ 12) (by decide), ts ++ [s], by rw [upd_same, List.map_append]; rfl, by rw [List.length_append, lt]; rfl, fun x hx => ?_, bx3.oth (Oth.put (S := [D]) (by simp) hD3) (by simp [nbD]) (by simp [ndD]), o2.trans ((ol.mono (by simp)).trans ((o3.mono (by simp)).trans (Oth.put (by simp) hD3)))⟩
    rcases List.mem_append.mp hx with h | h
    · exact ht x h
    · rw [List.mem_singleton.mp h]; exact ls
  obtain ⟨ts, hD2, lt, ht, bx2, o2⟩ := hW
  have o2' := Oth.drop2 o2 hD
  have nbD := bx1.nb hD
  have fa2 := fa0.oth o2' (fun x hx => .inl (List.mem_singleton.mp hx))
  have S1 : ∀ {H : Hp}, ∀ x ∈ [b], x = b ∨ H x = none := fun x hx => .inl (List.mem_singleton.mp hx)
  -- the first tree
  refine ⟨_, rfl, _, rfl, _, rfl, _, rfl, b, d, rest, fr, Fo, rfl, bx2, ok, fa2, fun hr bs H3 lb eh nh bx3 o3 => ?_⟩
  have fa3 := fa2.oth o3 S1
  have hD3 := kp o3 hD2 nbD.symm S1
  refine ⟨_, rfl, _, rfl, b, d, rest, fr, Fo, hr, D, bs, ts, none, rfl, bx3, ok, fa3, eh, nh, lb, hD3, nbD.symm, lt, ht, by show _ < 13 + 0; omega, Nat.zero_le _, fun v1 B H4 fitB htB tB bx4 o4 => ?_⟩
  have fa4 := fa3.oth o4 S1
  have hD4 := kp o4 hD3 nbD.symm S1
  -- other texts
  refine ⟨_, rfl, D, _, rfl, .inl (SqL.of hD4), _, rfl, by rw [List.length_map]; omega, by rw [List.length_map]; omega, ?_⟩
  rw [List.length_map, lt]
  refine fun D2 hD2' => lc_range (lo := 0) (n := Fo.ps.length)
    (fun i H5 => ∃ us : List Str, H5 D2 = some (.lst (us.map V.str)) ∧ us.length = i ∧ (∀ s ∈ us, TxOk s) ∧ Box H5 b d rest ∧ Oth [b, D2] H4 H5)
    ⟨[], upd_same, rfl, (fun s h => nomatch h), bx4.new hD2', Oth.new hD2'⟩ (fun i H5 hi hW => ?_) (fun H5 hW => ?_)
  · obtain ⟨us, hE5, lu, hu, bx5, o5⟩ := hW
    have nbE := bx4.nb hD2'
    have ndE := bx4.nd hD2'
    have hD5 := o5.keep D _ (by simp [nbD.symm, ne_of_none hD4 hD2']) hD4
    have e00 : (0 : Int) + ((i : Nat) : Int) = ((i : Nat) : Int) := by omega
    rw [e00]
    have gt : (ts.map V.str)[i]? = some (.str ts[i]) := by rw [List.getElem?_map, List.getElem?_eq_getElem (by omega)]; rfl
    refine ⟨rfl, _, rfl, _, rfl, D, _, _, _, rfl, rfl, SqL.of hD5, atI_nat gt, sz, fun l hl => ?_⟩
    have ol := Oth.new (S := []) (o := .lst [.str ts[i], .str "new"]) hl
    have nbl := bx5.nb hl
    refine ⟨_, rfl, b, d, _, rest, rfl, by decide, bx5.new hl, fun r H6 r0 r1 bx6 o6 => ?_⟩
    have el := o6.keep l _ (by simp [nbl.symm]) (upd_same : (upd H5 l (.lst [.str ts[i], .str "new"])) l = _)
    have g3 : ∃ s : Str, atI [V.str ts[i], .str "new"] (if decide (V.int r = V.int 0) = true then 1 else 0) = some (.str s) ∧ TxOk s := by
      by_cases h : decide (V.int r = V.int 0) = true
      · rw [if_pos h]; exact ⟨_, at1, tx_new⟩
      · rw [if_neg h]; exact ⟨_, at0, ht _ (List.getElem_mem _)⟩
    obtain ⟨s, as, ls⟩ := g3
    have hE6 := o6.keep D2 _ (by simp [nbE.symm]) (ol.keep D2 _ (by simp) hE5)
    refine ⟨rfl, .inr ⟨_, rfl, l, _, _, _, rfl, rfl, SqL.of el, as, _, hE6, Nat.lt_of_le_of_lt (by rw [List.length_map]; omega : _ ≤ 12) (by decide), us ++ [s], by rw [upd_same, List.map_append]; rfl, by rw [List.length_append, lu]; rfl, fun x hx => ?_, bx6.oth (Oth.put (S := [D2]) (by simp) hE6) (by simp [nbE]) (by simp [ndE]), o5.trans ((ol.mono (by simp)).trans ((o6.mono (by simp)).trans (Oth.put (by simp) hE6)))⟩⟩
    rcases List.mem_append.mp hx with h | h
    · exact hu x h
    · rw [List.mem_singleton.mp h]; exact ls
  obtain ⟨us, hE5, lu, hu, bx5, o5⟩ := hW
  have o5' := Oth.drop2 o5 hD2'
  have nbE := bx4.nb hD2'
  have fa5 := fa4.oth o5' S1
  refine ⟨_, rfl, _, rfl, _, rfl, _, rfl, b, d, rest, fr, Fo, rfl, bx5, ok, fa5, fun hr2 bs2 H6 lb2 eh2 nh2 bx6 o6 => ?_⟩
  have fa6 := fa5.oth o6 S1
  have hE6 := kp o6 hE5 nbE.symm S1
  refine ⟨_, rfl, _, rfl, b, d, rest, fr, Fo, hr2, D2, bs2, us, none, rfl, bx6, ok, fa6, eh2, nh2, lb2, hE6, nbE.symm, lu, hu, by show _ < 13 + 0; omega, Nat.zero_le _, fun v2 Aa H7 fitA htA tA bx7 o7 => ?_⟩
  refine ⟨_, rfl, _, rfl, sz, fun z hz => ?_⟩
  have oz := Oth.new (S := []) (o := .lst [v1, v2]) hz
  have o47 := o5'.trans (o6.trans o7)
  exact q z v1 v2 Fo B Aa _ ok upd_same (bx7.nb hz).symm ((tB.oth o47).oth oz) (tA.oth oz) fitB fitA htB htA (bx7.new hz) (o1.trans (o2'.trans (o3.trans (o4.trans (o47.trans (oz.mono (by simp)))))))
end
abbrev sLAll : Stmt := topS 15
abbrev sLFam : Stmt := topS 16
theorem scLAll : FnScope ["nodes", "rows", "node"] ["nodes"] (defScope sLAll) := ⟨rfl, rfl, rfl, by decide +kernel, rfl, by decide +kernel, by decide +kernel⟩
theorem scLFam : FnScope ["nodes", "rows", "node"] ["nodes"] (defScope sLFam) := ⟨rfl, rfl, rfl, by decide +kernel, rfl, by decide +kernel, by decide +kernel⟩
section
variable {P : Program} {w : World} {K : PySem.W.Frag} {mg : Str → Option Value} {base : Heap}
theorem ok_lall {f : Addr} {fd : FuncData} {k n : Nat} (F : Fun K "_law_all" "_law_all" sLAll f fd)
    (GLal : FnOk P w K mg base CX0 k f fd ["nodes"] (spAllT n)) (bLal : Binds K fd ["nodes"] []) (kLal : PySem.W.keepIn K (.ref f) = true) (mLal : mg "_law_all" = some (.ref f)) :
    FnOk P w K mg base CX0 (k + 1) f fd ["nodes"] (spAllT (n + 1)) := by
  refine F.ok scLAll (fun vs H Q E h => ?_) (fun cdv A outer s H vs Q E' hr h => ?_)
  · obtain ⟨ns, v, rfl, _⟩ := h
    rfl
  obtain ⟨ns, v, rfl, tv, hh, hc, q⟩ := h
  have nd := scLAll.nd
  refine ⟨_, (pss_cons (ps_set (i := 1) nd rfl (.inl rfl) (pe_lst pa_nil))
  (pss_cons (ps_for PassesOwn.never rfl (pi_tup (pv 0)) (pg_name (i := 2) nd rfl (.inl rfl))
  (pss_cons (ps_expr (pe_bm PySem.F.plainAttrs_list PySem.F.slot_list_append PySem.F.type_list_append mt_append (pv 1) (pa_cons (pv 2) pa_nil)))
  (pss_one (ps_if (pt_cmpR op_eq (pe_ix ix_tup (pv 2) pe_int (fun _ _ => rfl)) pe_str (nomark _))
  (pss_one (ps_set (i := 1) nd rfl (.inl rfl) (pe_op op_cat (pv 1) (pe_call GLal hr rfl mLal kLal bLal .nil pass0 (pa_cons (pe_ix ix_tup (pv 2) pe_int (fun _ _ => rfl)) pa_nil)))))
  pss_nil))))
  (pss_one (ps_ret (pv 1))))), ?_⟩
  obtain ⟨a, xs, rfl, ea, pa⟩ := tv.inv
  have lx : xs.length = ns.length := by rw [(paired_get pa).1, Sn.toTs_map, List.length_map]
  refine ⟨sz, fun p0 hp0 => ?_⟩
  have o0 := Oth.new (S := []) (o := .lst []) hp0
  refine ⟨_, rfl, a, rfl, ⟨xs, SqT.of (o0.tup _ _ ea)⟩, for_tup (xs := xs)
    (fun j σ H1 => ∃ (x2 : Option V) (p : Addr) (out : List V), σ = [some (.ref a), some (.ref p), x2] ∧ H p = none ∧ Oth [] H H1 ∧ H1 p = some (.lst out) ∧ Paired (IsT H1) ((Sn.all (ns.take j)).map Sn.toT) out)
    ⟨none, p0, [], rfl, hp0, o0, upd_same, .nil⟩ (fun j σ H1 _ hW => ?_) (fun j x σ H1 hx hW => ?_) (fun σ H1 hW => ?_)⟩
  · obtain ⟨_, _, _, _, _, o1, _⟩ := hW
    exact SqT.of (o1.tup _ _ ea)
  · obtain ⟨x2, p, out, rfl, hp, o1, hp1, po1⟩ := hW
    have hj : j < ns.length := by rw [← lx]; exact (List.getElem?_eq_some_iff.mp hx).1
    obtain ⟨nd1, gn⟩ : ∃ nd, ns[j]? = some nd := ⟨ns[j], List.getElem?_eq_getElem hj⟩
    have tn : IsT H1 nd1.toT x := ((paired_get pa).2 j _ _ (by rw [Sn.toTs_map, List.getElem?_map, gn]; rfl) hx).oth o1
    have mem := List.mem_of_getElem? gn
    have hhn := Sn.hts_mem mem
    have hcn := Sn.kids_len mem
    have lout : out.length ≤ 1000 := by
      have h1 := (paired_get po1).1
      rw [List.length_map] at h1
      have e2 := congrArg (fun l => (Sn.all l).length) (List.take_append_drop j ns).symm
      simp only [Sn.all_app, List.length_append] at e2
      omega
    refine ⟨_, rfl, .inl ⟨rfl, _, SqL.of hp1⟩, _, rfl, p, out, x, rfl, rfl, hp1, Nat.lt_of_le_of_lt lout (by decide), ?_⟩
    have op : Oth [p] H1 (upd H1 p (.lst (out ++ [x]))) := Oth.put (by simp) hp1
    have o2 : Oth [] H (upd H1 p (.lst (out ++ [x]))) := Oth.drop ((o1.mono (by simp)).trans op) hp
    have tn2 := tn.oth op
    have po2 := paired_app (paired_oth po1 op) (.cons tn2 .nil)
    have hp2 : (upd H1 p (.lst (out ++ [x]))) p = some (.lst (out ++ [x])) := upd_same
    generalize upd H1 p (.lst (out ++ [x])) = H2 at o2 tn2 po2 hp2
    have e1 : (Sn.all (ns.take (j + 1))).map Sn.toT = ((Sn.all (ns.take j)).map Sn.toT ++ [nd1.toT]) ++ (Sn.all nd1.kids).map Sn.toT := by
      rw [take_snoc gn, Sn.all_app, Sn.all_cons]
      simp [Sn.all, Sn.lst]
    cases nd1 with
    | text q' s' =>
      obtain ⟨b, _, v1, v2, rfl, eb, p0, p1, p2⟩ := IsT.inv3 tn2
      obtain rfl := p0.of_str
      refine ⟨_, rfl, b, _, _, _, rfl, rfl, SqT.of eb, at0, rfl, _, rfl, iteF ⟨_, p, _, rfl, hp, o2, hp2, ?_⟩⟩
      rw [e1]; simpa [Sn.kids, Sn.all, Sn.lst] using po2
    | input q' s' =>
      obtain ⟨b, _, v1, v2, v3, rfl, eb, p0, p1, p2, p3⟩ := IsT.inv4 tn2
      obtain rfl := p0.of_str
      refine ⟨_, rfl, b, _, _, _, rfl, rfl, SqT.of eb, at0, rfl, _, rfl, iteF ⟨_, p, _, rfl, hp, o2, hp2, ?_⟩⟩
      rw [e1]; simpa [Sn.kids, Sn.all, Sn.lst] using po2
    | box q' t' inner =>
      obtain ⟨b, _, v1, v2, v3, rfl, eb, p0, p1, p2, p3⟩ := IsT.inv4 tn2
      obtain rfl := p0.of_str
      simp only [Sn.ht] at hhn
      have hcn' : (Sn.all inner).length ≤ (Sn.all ns).length := hcn
      refine ⟨_, rfl, b, _, _, _, rfl, rfl, SqT.of eb, at0, rfl, _, rfl, iteT ?_⟩
      refine ⟨_, rfl, _, rfl, b, _, _, _, rfl, rfl, SqT.of eb, at3, inner, _, rfl, p3, by omega, by omega, fun r us H4 hr4 er pr o4 => ?_⟩
      have hp4 := o4.keep p _ (by simp) hp2
      have lus := (paired_get pr).1
      rw [List.length_map] at lus
      refine ⟨p, r, _, us, rfl, rfl, hp4, er, Nat.le_trans (by rw [List.length_append, List.length_singleton]; omega : _ ≤ 2001) (by decide), fun p5 hp5 => ?_⟩
      have o5 := Oth.new (S := []) (o := .lst ((out ++ [.ref b]) ++ us)) hp5
      refine ⟨_, p5, _, rfl, back (o2.trans o4) hp5 (by simp), o2.trans (o4.trans o5), upd_same, ?_⟩
      rw [e1]
      exact paired_app (paired_oth (paired_oth po2 o4) o5) (paired_oth pr o5)
  · obtain ⟨x2, p, out, rfl, hp, o1, hp1, po1⟩ := hW
    rw [lx, List.take_length] at po1
    exact ⟨_, rfl, q p out H1 hp hp1 po1 o1⟩
theorem ok_lfam {f fA : Addr} {fd dA : FuncData} {k n : Nat} (F : Fun K "_law_families" "_law_families" sLFam f fd)
    (GLal : FnOk P w K mg base CX0 k fA dA ["nodes"] (spAllT n)) (bLal : Binds K dA ["nodes"] []) (kLal : PySem.W.keepIn K (.ref fA) = true) (mLal : mg "_law_all" = some (.ref fA)) (m_list : mg "list" = none) :
    FnOk P w K mg base CX0 (k + 1) f fd ["nodes"] (spFamsT n) := by
  refine F.ok scLFam (fun vs H Q E h => ?_) (fun cdv A outer s H vs Q E' hr h => ?_)
  · obtain ⟨ns, v, rfl, _⟩ := h
    rfl
  obtain ⟨ns, v, rfl, tv, hh, hc, q⟩ := h
  have nd := scLFam.nd
  refine ⟨_, (pss_cons (ps_set (i := 1) nd rfl (.inl rfl) (pe_lst (pa_cons (pe_lst (pa_cons pe_non (pa_cons (pe_callTy call_list_of (by rfl) m_list bo_list (pa_cons (pv 0) pa_nil)) pa_nil))) pa_nil)))
  (pss_cons (ps_for PassesOwn.never rfl (pi_list (pe_call GLal hr rfl mLal kLal bLal .nil pass0 (pa_cons (pv 0) pa_nil))) (pg_name (i := 2) nd rfl (.inl rfl))
  (pss_one (ps_if (pt_cmpR op_eq (pe_ix ix_tup (pv 2) pe_int (fun _ _ => rfl)) pe_str (nomark _))
  (pss_one (ps_expr (pe_bm PySem.F.plainAttrs_list PySem.F.slot_list_append PySem.F.type_list_append mt_append (pv 1) (pa_cons (pe_lst (pa_cons (pe_ix ix_tup (pv 2) pe_int (fun _ _ => rfl)) (pa_cons (pe_callTy call_list_of (by rfl) m_list bo_list (pa_cons (pe_ix ix_tup (pv 2) pe_int (fun _ _ => rfl)) pa_nil)) pa_nil))) pa_nil))))
  pss_nil)))
  (pss_one (ps_ret (pv 1))))), ?_⟩
  obtain ⟨a, xs, rfl, ea, pa⟩ := tv.inv
  refine ⟨_, rfl, a, xs, rfl, .inr (SqT.of ea), fun l hl => ⟨sz, fun t ht => ⟨sz, fun p hp => ?_⟩⟩⟩
  have ol := Oth.new (S := []) (o := .lst xs) hl
  have ot := Oth.new (S := []) (o := .lst [.non, .ref l]) ht
  have op := Oth.new (S := []) (o := .lst [.ref t]) hp
  have o2 := ol.trans (ot.trans op)
  have f0 : FamQ p H (upd (upd (upd H l (.lst xs)) t (.lst [.non, .ref l])) p (.lst [.ref t])) (none, ns) (.ref t) :=
    ⟨t, l, xs, rfl, op.keep t _ (by simp) upd_same, (ot.trans op).keep l _ (by simp) upd_same, by rw [← Sn.toTs_map]; exact paired_oth pa o2, back ol ht (by simp), hl, ne_of_none (upd_same : (upd (upd H l (.lst xs)) t (.lst [.non, .ref l])) t = _) hp, ne_of_none (ot.keep l _ (by simp) upd_same) hp⟩
  have hp2 : (upd (upd (upd H l (.lst xs)) t (.lst [.non, .ref l])) p (.lst [.ref t])) p = some (.lst [.ref t]) := upd_same
  have hpH := back (ol.trans ot) hp (by simp)
  generalize (upd (upd (upd H l (.lst xs)) t (.lst [.non, .ref l])) p (.lst [.ref t])) = H2 at o2 f0 hp2
  refine ⟨_, rfl, ns, _, rfl, .mk (o2.tup _ _ ea) (paired_oth pa o2), hh, hc, fun r us H3 hr3 er pr o3 => ?_⟩
  have lus : us.length = (Sn.all ns).length := by rw [(paired_get pr).1, List.length_map]
  have nrp : r ≠ p := (ne_of_none hp2 hr3).symm
  have hp3 := o3.keep p _ (by simp) hp2
  have o03 := o2.trans o3
  refine ⟨r, rfl, ⟨us, SqL.of er⟩, for_list (xs := us)
    (fun j σ H4 => ∃ (x2 : Option V) (out : List V), σ = [some (.ref a), some (.ref p), x2] ∧ Oth [p] H3 H4 ∧ H4 p = some (.lst out) ∧ Paired (FamQ p H H4) ((none, ns) :: (((Sn.all ns).take j).filter Sn.isB).map fun n => (some n.num, n.kids)) out)
    ⟨none, _, rfl, Oth.refl, hp3, (.cons (f0.oth (o3.mono (by simp))) .nil)⟩ (fun j σ H4 _ hW => ?_) (fun j x σ H4 hx hW => ?_) (fun σ H4 hW => ?_)⟩
  · obtain ⟨_, _, _, o4, _⟩ := hW
    exact SqL.of (o4.keep r _ (by simp [nrp]) er)
  · obtain ⟨x2, out, rfl, o4, hp4, po4⟩ := hW
    have hj : j < (Sn.all ns).length := by rw [← lus]; exact (List.getElem?_eq_some_iff.mp hx).1
    obtain ⟨n1, gi⟩ : ∃ n1, (Sn.all ns)[j]? = some n1 := ⟨_, List.getElem?_eq_getElem hj⟩
    have k2 : IsT H4 n1.toT x := ((paired_get pr).2 j _ _ (by rw [List.getElem?_map, gi]; rfl) hx).oth o4
    have lout : out.length ≤ 1001 := by
      have h1 := (pget po4).1
      have h2 := List.length_filter_le Sn.isB ((Sn.all ns).take j)
      have h3 : ((Sn.all ns).take j).length ≤ (Sn.all ns).length := by rw [List.length_take]; omega
      rw [List.length_cons, List.length_map] at h1
      omega
    cases n1 with
    | text q' s' =>
      obtain ⟨b, _, v1, v2, rfl, eb, p0, p1, p2⟩ := IsT.inv3 k2
      obtain rfl := p0.of_str
      refine ⟨_, rfl, b, _, _, _, rfl, rfl, SqT.of eb, at0, rfl, _, rfl, iteF ⟨_, _, rfl, o4, hp4, ?_⟩⟩
      rw [take_snoc gi, List.filter_append]
      simpa [Sn.isB] using po4
    | input q' s' =>
      obtain ⟨b, _, v1, v2, v3, rfl, eb, p0, p1, p2, p3⟩ := IsT.inv4 k2
      obtain rfl := p0.of_str
      refine ⟨_, rfl, b, _, _, _, rfl, rfl, SqT.of eb, at0, rfl, _, rfl, iteF ⟨_, _, rfl, o4, hp4, ?_⟩⟩
      rw [take_snoc gi, List.filter_append]
      simpa [Sn.isB] using po4
    | box q' t' inner =>
      obtain ⟨b, _, v1, v2, v3, rfl, eb, p0, p1, p2, p3⟩ := IsT.inv4 k2
      obtain rfl := p0.of_str
      obtain rfl := p1.of_int
      obtain ⟨ak, xk, rfl, ek, pk⟩ := p3.inv
      refine ⟨_, rfl, b, _, _, _, rfl, rfl, SqT.of eb, at0, rfl, _, rfl, iteT ?_⟩
      refine ⟨_, rfl, .inl ⟨rfl, _, SqL.of hp4⟩, _, rfl, b, _, _, _, rfl, rfl, SqT.of eb, at1, _, rfl, b, _, _, _, rfl, rfl, SqT.of eb, at3, ak, xk, rfl, .inr (SqT.of ek), fun l2 hl2 => ⟨sz, fun t2 ht2 => ?_⟩⟩
      have ol2 := Oth.new (S := []) (o := .lst xk) hl2
      have ot2 := Oth.new (S := []) (o := .lst [.int (q' : Int), .ref l2]) ht2
      have o6 := ol2.trans ot2
      have hp6 := o6.keep p _ (by simp) hp4
      refine ⟨p, out, .ref t2, rfl, rfl, hp6, Nat.lt_of_le_of_lt lout (by decide), ?_⟩
      have op2 : Oth [p] _ (upd (upd (upd H4 l2 (.lst xk)) t2 (.lst [.int (q' : Int), .ref l2])) p (.lst (out ++ [.ref t2]))) := Oth.put (by simp) hp6
      have nl2 : l2 ≠ p := (ne_of_none hp4 hl2).symm
      have nt2 : t2 ≠ p := (ne_of_none (ol2.keep p _ (by simp) hp4) ht2).symm
      have o0p : Oth [p] H H4 := (o03.mono (by simp)).trans o4
      refine ⟨_, _, rfl, o4.trans ((o6.mono (by simp)).trans op2), upd_same, ?_⟩
      rw [take_snoc gi, List.filter_append, List.map_append, ← List.cons_append]
      exact Paired.appendP (pimp po4 fun f v h => (h.oth (o6.mono (by simp))).oth op2) (.cons ⟨t2, l2, xk, rfl, op2.keep t2 _ (by simp [nt2]) upd_same, op2.keep l2 _ (by simp [nl2]) (ot2.keep l2 _ (by simp) upd_same), by rw [← Sn.toTs_map]; exact paired_oth (paired_oth pk o6) op2, back o0p (back ol2 ht2 (by simp)) (by simp [nt2]), back o0p hl2 (by simp [nl2]), nt2, nl2⟩ .nil)
  · obtain ⟨x2, out, rfl, o4, hp4, po4⟩ := hW
    rw [lus, List.take_length] at po4
    exact ⟨_, rfl, q p out H4 hpH hp4 (pimp po4 fun f v h => h.fam) (Oth.drop ((o03.mono (S' := [p]) (by simp)).trans o4) hpH)⟩
end
abbrev sGInit : Stmt := inClass (topS 1) 0
abbrev sGChange : Stmt := inClass (topS 1) 1
abbrev sGLeave : Stmt := inClass (topS 1) 2
abbrev sGPut : Stmt := inClass (topS 1) 3
abbrev sGTree : Stmt := inClass (topS 1) 4
theorem scGInit : FnScope ["self", "tree", "parent", "node", "numbers"] ["self", "tree"] (defScope sGInit) := ⟨rfl, rfl, rfl, by decide +kernel, rfl, by decide +kernel, by decide +kernel⟩
theorem scGChange : FnScope ["self", "operation", "number", "characters", "entered", "node", "parent", "behind"] ["self", "operation"] (defScope sGChange) := ⟨rfl, rfl, rfl, by decide +kernel, rfl, by decide +kernel, by decide +kernel⟩
theorem scGLeave : FnScope ["self", "number", "row"] ["self", "number"] (defScope sGLeave) := ⟨rfl, rfl, rfl, by decide +kernel, rfl, by decide +kernel, by decide +kernel⟩
theorem scGPut : FnScope ["self", "number", "parent", "behind", "row"] ["self", "number", "parent", "behind"] (defScope sGPut) := ⟨rfl, rfl, rfl, by decide +kernel, rfl, by decide +kernel, by decide +kernel⟩
theorem scGTree : FnScope ["self", "parent", "number"] ["self", "parent"] (defScope sGTree) := ⟨rfl, rfl, rfl, by decide +kernel, rfl, by decide +kernel, by decide +kernel⟩
section
variable {P : Program} {w : World} {K : PySem.W.Frag} {mg : Str → Option Value} {base : Heap}
theorem ok_gleave {f C : Addr} {fd : FuncData} {k : Nat} (F : Fun K "leave" "Growing.leave" sGLeave f fd) (TC : Cls K C) (nr : NoAttr K C "rows") (na : NoAttr K C "around") :
    FnOk P w K mg base CX0 (k + 1) f fd ["self", "number"] (spGLeave P w C) := by
  refine F.ok scGLeave (fun vs H Q E h => ?_) (fun cdv A outer s' H vs Q E' hr h => ?_)
  · obtain ⟨H0, s, db, dr, da, ad, g, N, n, rfl, _⟩ := h
    rfl
  obtain ⟨H0, s, db, dr, da, ad, g, N, n, rfl, hA, hl, q⟩ := h
  have nd := scGLeave.nd
  have hu20 := Room.u20 hr
  refine ⟨_, (pss_one (ps_if (pt_cmpR (op_inL (P := P) (w := w) rfl rfl) (pv 1) (pe_fld (pv 0) rfl) (by rfl))
  (pss_cons (ps_set (i := 2) nd rfl (.inl rfl) (pe_dL (P := P) (w := w) rfl rfl (pe_fld (pv 0) rfl) (pe_dL (P := P) (w := w) rfl rfl (pe_fld (pv 0) rfl) (pv 1) (fun _ _ => rfl)) (fun _ _ => rfl)))
  (pss_cons (ps_expr (pe_bm PySem.F.plainAttrs_list PySem.F.slot_list_remove PySem.F.type_list_remove mt_remove (pv 2) (pa_cons (pv 1) pa_nil)))
  (pss_one (ps_ddelL (pe_fld (pv 0) rfl) (pv 1)))))
  pss_nil)), ?_⟩
  obtain ⟨dx, hob⟩ := hA.ob
  refine ⟨_, rfl, _, rfl, s, C, dx, _, _, rfl, hob, TC, na, gF_a, hA.around.inD (some n) false ⟨_, rfl, ?_⟩⟩
  cases e : g.around (some n) with
  | none =>
    refine iteF (q H ?_)
    unfold Gw.leave
    rw [e]
    exact hA
  | some p =>
    obtain ⟨l, er, hn⟩ := hl p e
    obtain ⟨hrow, ll, _⟩ := hA.lists p l er
    refine iteT ⟨_, rfl, s, C, dx, _, _, rfl, hob, TC, nr, gF_r, _, rfl, s, C, dx, _, _, rfl, hob, TC, na, gF_a, _, rfl, hA.around.at e fun v hv => ?_⟩
    subst hv
    refine hA.rows.at (k := p) (x := ad p) (by rw [er]; rfl) fun v hv => ?_
    subst hv
    obtain ⟨e1, e2, e3⟩ := erase_at hn
    refine ⟨_, rfl, .inl ⟨rfl, _, SqL.of hrow⟩, _, rfl, ad p, intI l, (n : Int), l.idxOf n, rfl, rfl, by rw [hrow, intL_I], e1, e2, ?_⟩
    rw [e3]
    have hA2 := hA.row er (l' := l.erase n) (Nat.le_trans List.length_erase_le ll)
    obtain ⟨dx2, hob2⟩ := hA2.ob
    refine ⟨_, rfl, s, C, dx2, _, _, rfl, hob2, TC, na, gF_a, _, rfl, da, hA2.around.del e fun H' o d => ?_⟩
    refine q H' ?_
    have := hA2.ar o d (Nat.le_refl N) hA.small
    unfold Gw.leave
    rw [e]
    dsimp only
    rw [er]
    exact this
theorem ok_gput {f C : Addr} {fd : FuncData} {k : Nat} (F : Fun K "put" "Growing.put" sGPut f fd) (TC : Cls K C) (nr : NoAttr K C "rows") (na : NoAttr K C "around") (m_len : mg "len" = none) :
    FnOk P w K mg base CX0 (k + 1) f fd ["self", "number", "parent", "behind"] (spGPut P w C) := by
  refine F.ok scGPut (fun vs H Q E h => ?_) (fun cdv A outer s' H vs Q E' hr h => ?_)
  · obtain ⟨H0, s, db, dr, da, ad, g, N, n, p, b, rfl, _⟩ := h
    rfl
  obtain ⟨H0, s, db, dr, da, ad, g, N, n, p, b, rfl, hA, hl, hN, q⟩ := h
  have nd := scGPut.nd
  have hu20 := Room.u20 hr
  refine ⟨_, (pss_cons (ps_set (i := 4) nd rfl (.inl rfl) (pe_dL (P := P) (w := w) rfl rfl (pe_fld (pv 0) rfl) (pv 2) (fun _ _ => rfl)))
  (pss_cons (ps_expr (pe_bm PySem.F.plainAttrs_list PySem.F.slot_list_insert PySem.F.type_list_insert mt_insert (pv 4) (pa_cons (pe_ifExp (pt_cmpR op_isN (pv 3) pe_non (nomark _)) (pe_callB call_len_seq (by rfl) m_len PySem.boot_len (pa_cons (pv 4) pa_nil)) (pe_bm PySem.F.plainAttrs_list PySem.F.slot_list_index PySem.F.type_list_index mt_index (pv 4) (pa_cons (pv 3) pa_nil))) (pa_cons (pv 1) pa_nil))))
  (pss_one (ps_asg (pv 2) (pg_sub (pe_fld (pv 0) rfl) (pv 1) set_leaf))))), ?_⟩
  obtain ⟨dx, hob⟩ := hA.ob
  obtain ⟨l, er, hb⟩ := hl
  obtain ⟨hrow, ll, _⟩ := hA.lists p l er
  refine ⟨_, rfl, s, C, dx, _, _, rfl, hob, TC, nr, gF_r, _, rfl, hA.rows.at (k := p) (x := ad p) (by rw [er]; rfl) fun v hv => ?_⟩
  subst hv
  refine ⟨_, rfl, .inl ⟨rfl, _, SqL.of hrow⟩, ?_⟩
  -- what is behind
  have lN := hA.small
  have fit : ∀ i : Nat, i ≤ l.length → (intL l).take i ++ [V.int (n : Int)] ++ (intL l).drop i = intL (insR l n b) → (intL l).length < sizeLine ∧ (0 : Int) ≤ ((i : Nat) : Int) ∧ ((i : Nat) : Int) < 2 ^ 63 ∧ (insR l n b).length = l.length + 1 := fun i hi ei => by
    refine ⟨Nat.lt_of_le_of_lt (by rw [intL_len]; exact Nat.le_trans ll lN) (by decide), by omega, Int.lt_of_le_of_lt (b := ((100000 : Nat) : Int)) (by omega) (by decide), ?_⟩
    have := congrArg List.length ei
    rw [intL_len] at this
    rw [← this]
    simp only [List.length_append, List.length_take, List.length_drop, List.length_singleton, intL_len]
    omega
  have eN : ∀ i : Nat, ((i : Nat) : Int).toNat = i := fun i => by omega
  have eP : g.put n p b = { g with rows := setF g.rows p (some (insR l n b)), around := setF g.around (some n) (some p) } := by
    unfold Gw.put
    rw [er]; rfl
  have dar : ∀ {o}, DicF P w (upd H (ad p) o) da (fun (p : Key0) v => v = k0V p) g.around N := fun {o} => hA.around.oth (Oth.put (S := [ad p]) (by simp) hrow) (by simp [(hA.apart er).2.2.2.symm])
  have grow := fun (h : (insR l n b).length ≤ N + 1) => (hA.mono (Nat.le_succ N) (by omega)).row er h
  cases b with
  | none =>
    have ei : (intL l).take l.length ++ [V.int (n : Int)] ++ (intL l).drop l.length = intL (insR l n none) := by
      rw [← intL_len l, List.take_length, List.drop_length, List.append_nil]
      show intL l ++ [V.int (n : Int)] = intL (l ++ [n])
      unfold intL
      rw [List.map_append]
      rfl
    obtain ⟨f1, f2, f3, f4⟩ := fit l.length (Nat.le_refl _) ei
    refine ⟨_, rfl, rfl, _, rfl, iteTb rfl ⟨_, rfl, ad p, _, rfl, .inl (SqL.of hrow), _, rfl, ?_⟩⟩
    rw [intL_len]
    refine ⟨ad p, intL l, _, _, rfl, rfl, hrow, f1, f2, f3, ?_⟩
    rw [eN, ei]
    have hA2 := grow (by omega)
    obtain ⟨dx2, hob2⟩ := hA2.ob
    refine ⟨_, rfl, _, rfl, s, C, dx2, _, _, rfl, hob2, TC, na, gF_a, _, rfl, dar.put (j := some n) (x := p) (Nat.lt_of_le_of_lt lN (by decide)) rfl fun H' o d => ?_⟩
    have := hA2.ar o d (Nat.le_refl _) (by omega)
    refine q H' ?_
    rw [eP]
    exact this
  | some y =>
    have hy := hb y rfl
    have ei : (intL l).take (l.idxOf y) ++ [V.int (n : Int)] ++ (intL l).drop (l.idxOf y) = intL (insR l n (some y)) := by
      show (intL l).take _ ++ [V.int (n : Int)] ++ (intL l).drop _ = intL (l.take (l.idxOf y) ++ n :: l.drop (l.idxOf y))
      unfold intL
      rw [List.map_append, List.map_cons, List.map_take, List.map_drop, List.append_assoc]
      rfl
    obtain ⟨f1, f2, f3, f4⟩ := fit (l.idxOf y) (Nat.le_of_lt (List.idxOf_lt_length_of_mem hy)) ei
    refine ⟨_, rfl, rfl, _, rfl, iteFb rfl ⟨_, rfl, .inl ⟨rfl, _, SqL.of hrow⟩, _, rfl, ad p, _, _, l.idxOf y, .int (y : Int), rfl, rfl, SqL.of hrow, rfl, flat_intL _, by unfold intL; rw [List.getElem?_map, idx_at hy]; rfl, by simp [eqV, k0V], fun j z hj ez => ?_, _, rfl, ?_⟩⟩
    · obtain ⟨x, gx, rfl⟩ := intL_get ez
      have : x ≠ y := fun e => idx_first l y j hj (by rw [gx, e])
      have : ((x : Nat) : Int) ≠ (y : Int) := by omega
      simp [eqV, k0V, this]
    · refine ⟨ad p, intL l, _, _, rfl, rfl, hrow, f1, f2, f3, ?_⟩
      rw [eN, ei]
      have hA2 := grow (by omega)
      obtain ⟨dx2, hob2⟩ := hA2.ob
      refine ⟨_, rfl, _, rfl, s, C, dx2, _, _, rfl, hob2, TC, na, gF_a, _, rfl, dar.put (j := some n) (x := p) (Nat.lt_of_le_of_lt lN (by decide)) rfl fun H' o d => ?_⟩
      have := hA2.ar o d (Nat.le_refl _) (by omega)
      refine q H' ?_
      rw [eP]
      exact this
theorem ok_gtree {f C : Addr} {fd : FuncData} {k n : Nat} (F : Fun K "tree" "Growing.tree" sGTree f fd) (TC : Cls K C) (nb : NoAttr K C "bare") (nr : NoAttr K C "rows")
    (GGtr : FnOk P w K mg base CX0 k f fd ["self", "parent"] (spGTree P w C n)) (bGtr : Binds K fd ["self", "parent"] []) (mtGtr : Meth K C "tree" f) (m_tuple : mg "tuple" = none) :
    FnOk P w K mg base CX0 (k + 1) f fd ["self", "parent"] (spGTree P w C (n + 1)) := by
  refine F.ok scGTree (fun vs H Q E h => ?_) (fun cdv A outer s' H vs Q E' hr h => ?_)
  · obtain ⟨H0, s, db, dr, da, ad, g, N, p, ns, rfl, _⟩ := h
    rfl
  obtain ⟨H0, s, db, dr, da, ad, g, N, p, ns, rfl, hA, hg, hh, q⟩ := h
  have nd := scGTree.nd
  have hu20 := Room.u20 hr
  refine ⟨_, (pss_one (ps_ret (pe_tupleOf (by rfl) m_tuple (pe_lc (own := [("number", 2)]) (g := gName 2) (tt := tYes) rfl nd (pi_list (pe_dL (P := P) (w := w) rfl rfl (pe_fld (pv 0) rfl) (pv 1) (fun _ _ => rfl))) (blkOk_by (N := ["self", "parent", "number"]) (sc := defScope sGTree) (by decide +kernel)) (fun _ _ _ _ _ => (pg_name (i := 2) nd rfl (.inl rfl))) (fun _ _ _ _ _ => pts_nil) (fun _ _ _ _ _ => (pe_ifExp (pt_cmpR (op_inL (P := P) (w := w) rfl rfl) (pv 2) (pe_fldK (K := K) rfl (pv 0) rfl) (by rfl)) (pe_op (r := rCatA K) op_catA (pe_slice (r := rSlA K) sl_tupA (pe_dL (P := P) (w := w) rfl rfl (pe_fldK (K := K) rfl (pv 0) rfl) (pv 2) (fun _ _ => rfl)) po_none (po_some pe_int)) (pe_tup (pa_cons (pe_meth (pv 0) TC mtGtr GGtr hr bGtr .nil pass0 (pa_cons (pv 2) pa_nil)) pa_nil))) (pe_dL (P := P) (w := w) rfl rfl (pe_fldK (K := K) rfl (pv 0) rfl) (pv 2) (fun _ _ => rfl)))))))), ?_⟩
  obtain ⟨dx, hob⟩ := hA.ob
  obtain ⟨er, hn⟩ := hg
  obtain ⟨hrow, ll, _⟩ := hA.lists p _ er
  refine ⟨_, rfl, s, C, dx, _, _, rfl, hob, TC, nr, gF_r, _, rfl, hA.rows.at (k := p) (x := ad p) (by rw [er]; rfl) fun v hv => ?_⟩
  subst hv
  have lns : ns.length ≤ 100000 := by have := hA.small; unfold nums at ll; rw [List.length_map] at ll; omega
  refine ⟨ad p, rfl, ⟨_, SqL.of hrow⟩, fun D hD => lc_list (xs := intL (nums ns))
    (fun i H1 => ∃ out, H1 D = some (.lst out) ∧ Paired (IsT H1) (Sn.toTs (ns.take i)) out ∧ Oth [D] H H1)
    ⟨[], upd_same, .nil, Oth.new hD⟩ (fun i H1 _ hW => ?_) (fun i x H1 hx hW => ?_) (fun H1 hW => ?_)⟩
  · obtain ⟨_, _, _, o1⟩ := hW
    exact SqL.of (o1.keep _ _ (by simp [ne_of_none hrow hD]) hrow)
  · obtain ⟨out, hD1, po, o1⟩ := hW
    obtain ⟨m, gm, rfl⟩ := intL_get hx
    unfold nums at gm
    rw [List.getElem?_map] at gm
    obtain ⟨nd1, gn, rfl⟩ : ∃ nd1, ns[i]? = some nd1 ∧ nd1.num = m := by
      cases h : ns[i]? with
      | none => rw [h] at gm; cases gm
      | some z => rw [h] at gm; exact ⟨z, rfl, Option.some.inj gm⟩
    have mem := List.mem_of_getElem? gn
    obtain ⟨n1, n2⟩ := hn nd1 (Sn.mem_all mem)
    have hht := Sn.hts_mem mem
    have hA1 : GrowAt P w C H0 H s db dr da ad g N := hA
    have nDH : ∀ {a o}, H a = some o → a ≠ D := fun e => ne_of_none e hD
    obtain ⟨_, eb⟩ := hA.bare.is
    obtain ⟨_, ed⟩ := hA.rows.is
    have hob1 := o1.keep s _ (by simp [nDH hob]) hob
    have d1 : DicF P w H1 dr (fun (a : Addr) v => v = .ref a) (fun k => (g.rows k).map fun _ => ad k) N := hA.rows.oth o1 (by simp [nDH ed])
    have b1 : DicF P w H1 db (fun (m : Sn) v => IsT H m.toT v) g.bare N := hA.bare.oth o1 (by simp [nDH eb])
    have lo : out.length < sizeLine := Nat.lt_of_le_of_lt (by have := (paired_get po).1; rw [Sn.toTs_map, List.length_map, List.length_take] at this; omega : _ ≤ 100000) (by decide)
    have e1 : Sn.toTs (ns.take (i + 1)) = Sn.toTs (ns.take i) ++ [nd1.toT] := by rw [take_snoc gn, Sn.toTs_map, Sn.toTs_map, List.map_append]; rfl
    refine ⟨rfl, _, rfl, _, rfl, s, C, dx, _, _, rfl, hob1, TC, nr, gF_r, d1.inD (some nd1.num) false ⟨_, rfl, ?_⟩⟩
    cases nd1 with
    | text q' s' =>
      refine iteFb (by rw [n2]; rfl) ?_
      refine ⟨_, rfl, s, C, dx, _, _, rfl, hob1, TC, nb, gF_b, _, rfl, b1.at n1 fun v hv => ⟨_, hD1, lo, _, upd_same, ?_, o1.trans (Oth.put (by simp) hD1)⟩⟩
      have op : Oth [D] H1 (upd H1 D (.lst (out ++ [v]))) := Oth.put (by simp) hD1
      rw [e1]
      exact paired_app (paired_oth po op) (.cons ((hv.oth o1).oth op) .nil)
    | input q' s' =>
      refine iteFb (by rw [n2]; rfl) ?_
      refine ⟨_, rfl, s, C, dx, _, _, rfl, hob1, TC, nb, gF_b, _, rfl, b1.at n1 fun v hv => ⟨_, hD1, lo, _, upd_same, ?_, o1.trans (Oth.put (by simp) hD1)⟩⟩
      have op : Oth [D] H1 (upd H1 D (.lst (out ++ [v]))) := Oth.put (by simp) hD1
      rw [e1]
      exact paired_app (paired_oth po op) (.cons ((hv.oth o1).oth op) .nil)
    | box q' t' inner =>
      refine iteTb (by rw [n2]; rfl) ?_
      refine ⟨_, rfl, s, C, dx, _, _, rfl, hob1, TC, nb, gF_b, _, rfl, b1.at n1 fun v hv => ?_⟩
      obtain ⟨b, _, v1, v2, v3, rfl, eb', p0, p1, p2, p3⟩ := IsT.inv4 (hv.oth o1)
      obtain rfl := p0.of_str
      refine ⟨3, rfl, sl_take (n := 3) eb' fun c H2 o2 e2 => ?_⟩
      have oH2 : Oth [] H H2 := Oth.drop (o1.trans (o2.mono (by simp))) hD
      have hA2 := hA.to oH2
      obtain ⟨dx2, hob2⟩ := hA2.ob
      simp only [Sn.ht] at hht
      refine ⟨_, rfl, s, dx2, _, rfl, hob2, gF_no (by decide +kernel) (by decide +kernel) (by decide +kernel), _, rfl, H0, s, db, dr, da, ad, g, N, some q', inner, rfl, hA2, Gw.Grows.kid ⟨er, hn⟩ mem, by omega, fun r H3 tr o3 => ⟨sz, fun u hu => ?_⟩⟩
      have ou := Oth.new (S := []) (o := .tup [r]) hu
      refine cat_t (ou.tup _ _ (o3.tup _ _ e2)) upd_same (by simp) fun d H4 o4 e4 => ?_
      have o24 : Oth [] H1 H4 := o2.trans (o3.trans (ou.trans o4))
      have hD4 := o24.keep D _ (by simp) hD1
      have op : Oth [D] H4 (upd H4 D (.lst (out ++ [.ref d]))) := Oth.put (by simp) hD4
      refine ⟨out, hD4, lo, _, upd_same, ?_, o1.trans ((o24.mono (by simp)).trans op)⟩
      rw [e1]
      exact paired_app (paired_oth (paired_oth po o24) op) (.cons (IsT.oth (.mk4 e4 (.str _) (p1.oth o24) (p2.oth o24) (tr.oth (ou.trans o4))) op) .nil)
  obtain ⟨out, hD1, po, o1⟩ := hW
  have e : ns.take (intL (nums ns)).length = ns := by rw [intL_len, nums, List.length_map, List.take_length]
  rw [e] at po
  refine .inl ⟨D, _, rfl, SqL.of hD1, fun t ht => ?_⟩
  have ot := Oth.new (S := []) (o := .tup out) ht
  exact q _ _ (.mk upd_same (paired_oth po ot)) ((Oth.drop o1 hD).trans ot)
end
abbrev sApply : Stmt := topS 2
theorem scApply : FnScope ["tree", "operations", "growing", "operation"] ["tree", "operations"] (defScope sApply) := ⟨rfl, rfl, rfl, by decide +kernel, rfl, by decide +kernel, by decide +kernel⟩
section
variable {P : Program} {w : World} {K : PySem.W.Frag} {mg : Str → Option Value} {base : Heap}
theorem ok_gchange {f fL fP C : Addr} {fd dL dP : FuncData} {k : Nat} (F : Fun K "change" "Growing.change" sGChange f fd) (TC : Cls K C) (nb : NoAttr K C "bare") (nr : NoAttr K C "rows")
    (GGle : FnOk P w K mg base CX0 k fL dL ["self", "number"] (spGLeave P w C)) (bGle : Binds K dL ["self", "number"] []) (mtGle : Meth K C "leave" fL)
    (GGpu : FnOk P w K mg base CX0 k fP dP ["self", "number", "parent", "behind"] (spGPut P w C)) (bGpu : Binds K dP ["self", "number", "parent", "behind"] []) (mtGpu : Meth K C "put" fP) :
    FnOk P w K mg base CX0 (k + 1) f fd ["self", "operation"] (spGChange P w C) := by
  refine F.ok scGChange (fun vs H Q E h => ?_) (fun cdv A outer s' H vs Q E' hr h => ?_)
  · obtain ⟨H0, s, db, dr, da, ad, g, N, op, v, rfl, _⟩ := h
    rfl
  obtain ⟨H0, s, db, dr, da, ad, g, N, op, v, rfl, hA, tv, hok, hN, q⟩ := h
  have nd := scGChange.nd
  have hu20 := Room.u20 hr
  refine ⟨_, (pss_one (ps_match (pv 1) (pcs_cons nd (pp_seq rfl (pps_cons' pp_str (pps_cons' (pp_name 2) pps_nil'))) (pss_one (ps_expr (pe_meth (pv 0) TC mtGle GGle hr bGle .nil pass0 (pa_cons (pv 2) pa_nil))))
  (pcs_cons nd (pp_seq rfl (pps_cons' pp_str (pps_cons' (pp_name 2) (pps_cons' (pp_name 3) pps_nil')))) (pss_one (ps_asg (pe_tup (pa_cons pe_str (pa_cons (pv 2) (pa_cons (pv 3) pa_nil)))) (pg_sub (pe_fld (pv 0) rfl) (pv 2) set_leaf)))
  (pcs_cons nd (pp_seq rfl (pps_cons' pp_str (pps_cons' (pp_name 2) (pps_cons' (pp_name 4) pps_nil')))) (pss_one (ps_asg (pe_op op_catA (pe_slice sl_tupA (pe_dL (P := P) (w := w) rfl rfl (pe_fld (pv 0) rfl) (pv 2) (fun _ _ => rfl)) po_none (po_some pe_int)) (pe_tup (pa_cons (pv 4) pa_nil))) (pg_sub (pe_fld (pv 0) rfl) (pv 2) set_leaf)))
  (pcs_cons nd (pp_seq rfl (pps_cons' pp_str (pps_cons' (pp_name 5) pps_nil'))) (pss_cons (ps_asg (pv 5) (pg_sub (pe_fld (pv 0) rfl) (pe_ix ix_tup (pv 5) pe_int (fun _ _ => rfl)) set_leaf))
  (pss_one (ps_if (pt_cmpR op_eq (pe_ix ix_tup (pv 5) pe_int (fun _ _ => rfl)) pe_str (nomark _))
  (pss_one (ps_asg (pe_lst pa_nil) (pg_sub (pe_fld (pv 0) rfl) (pe_ix ix_tup (pv 5) pe_int (fun _ _ => rfl)) set_leaf)))
  pss_nil)))
  (pcs_cons nd (pp_seq rfl (pps_cons' pp_str (pps_cons' (pp_name 2) (pps_cons' (pp_name 6) (pps_cons' (pp_name 7) pps_nil'))))) (pss_cons (ps_expr (pe_meth (pv 0) TC mtGle GGle hr bGle .nil pass0 (pa_cons (pv 2) pa_nil)))
  (pss_one (ps_expr (pe_meth (pv 0) TC mtGpu GGpu hr bGpu .nil pass0 (pa_cons (pv 2) (pa_cons (pv 6) (pa_cons (pv 7) pa_nil)))))))
  pcs_nil))))))), ?_⟩
  obtain ⟨dx, hob⟩ := hA.ob
  obtain ⟨n_sb, n_sr, n_sa⟩ := hA.selfs
  have lN := hA.small
  cases op with
  | take n =>
    obtain ⟨a, _, _, rfl, ea, t0, t1⟩ := IsT.inv2 tv
    obtain rfl := t0.of_str
    obtain rfl := t1.of_int
    refine ⟨_, rfl, case_hit (SqT.of ea) rfl ⟨_, _, rfl, ?_⟩⟩
    refine ⟨_, rfl, s, dx, _, rfl, hob, gF_no (by decide +kernel) (by decide +kernel) (by decide +kernel), _, rfl, H0, s, db, dr, da, ad, g, N, n, rfl, hA, hok, fun H' hA' => ?_⟩
    exact q ad H' (hA'.mono (Nat.le_succ N) (by omega))
  | text n x =>
    obtain ⟨a, _, _, _, rfl, ea, t0, t1, t2⟩ := IsT.inv3 tv
    obtain rfl := t0.of_str
    obtain rfl := t1.of_int
    obtain rfl := t2.of_str
    refine ⟨_, rfl, case_len (SqT.of ea) (by simp) (case_hit (SqT.of ea) rfl ⟨_, _, rfl, _, _, rfl, ?_⟩)⟩
    refine ⟨_, rfl, _, rfl, sz, fun t ht => ?_⟩
    have ot := Oth.new (S := []) (o := .tup [.str "text", .int (n : Int), .str x]) ht
    have hA2 := hA.to ot
    obtain ⟨dx2, hob2⟩ := hA2.ob
    refine ⟨_, rfl, s, C, dx2, _, _, rfl, hob2, TC, nb, gF_b, _, rfl, hA2.bare.put (j := some n) (x := .text n x) (Nat.lt_of_le_of_lt lN (by decide)) (.mk3 upd_same (.str _) (.int _) (.str _)) fun H' o d => ?_⟩
    exact q ad H' (hA2.ba' o (d.imp fun _ _ t => t.oth o) (Nat.le_succ N) (by omega))
  | value n x =>
    obtain ⟨a, _, _, _, rfl, ea, t0, t1, t2⟩ := IsT.inv3 tv
    obtain rfl := t0.of_str
    obtain rfl := t1.of_int
    obtain rfl := t2.of_int
    obtain ⟨y, hy⟩ := hok
    refine ⟨_, rfl, case_len (SqT.of ea) (by simp) (case_skip (SqT.of ea) (by decide) (case_hit (SqT.of ea) rfl ⟨_, _, rfl, _, _, rfl, ?_⟩))⟩
    refine ⟨_, rfl, s, C, dx, _, _, rfl, hob, TC, nb, gF_b, _, rfl, hA.bare.at hy fun v hv => ?_⟩
    obtain ⟨b, _, v1, v2, v3, rfl, eb, p0, p1, p2, p3⟩ := IsT.inv4 hv
    obtain rfl := p0.of_str
    obtain rfl := p1.of_int
    obtain rfl := p2.of_str
    refine ⟨3, rfl, sl_take (n := 3) eb fun c H2 o2 e2 => ?_⟩
    refine ⟨_, rfl, sz, fun u hu => ?_⟩
    have ou := Oth.new (S := []) (o := .tup [.int x]) hu
    refine cat_t (ou.tup _ _ e2) upd_same (by simp) fun d H3 o3 e3 => ?_
    have ot := o2.trans (ou.trans o3)
    have hA2 := hA.to ot
    obtain ⟨dx2, hob2⟩ := hA2.ob
    refine ⟨_, rfl, s, C, dx2, _, _, rfl, hob2, TC, nb, gF_b, _, rfl, hA2.bare.put (j := some n) (x := .input n x) (Nat.lt_of_le_of_lt lN (by decide)) (show IsT H3 (Sn.input n x).toT (.ref d) from .mk4 e3 (.str _) (.int _) (.str _) (.int _)) fun H' o d => ?_⟩
    exact q ad H' (hA2.ba' o (d.imp fun _ _ t => t.oth o) (Nat.le_succ N) (by omega))
  | make m =>
    obtain ⟨a, _, vm, rfl, ea, t0, t1⟩ := IsT.inv2 tv
    obtain rfl := t0.of_str
    refine ⟨_, rfl, case_skip (SqT.of ea) (by decide) (case_len (SqT.of ea) (by simp) (case_len (SqT.of ea) (by simp) (case_hit (SqT.of ea) rfl ⟨_, _, rfl, ?_⟩)))⟩
    obtain ⟨b, y, ys, rfl, eb, ey⟩ := sn_num t1
    refine ⟨_, rfl, _, rfl, s, C, dx, _, _, rfl, hob, TC, nb, gF_b, _, rfl, b, _, _, _, rfl, rfl, SqT.of eb, ey, hA.bare.put (j := some m.num) (x := m) (Nat.lt_of_le_of_lt lN (by decide)) t1 fun H1 o1 d1 => ?_⟩
    have hA1 := hA.ba' o1 (d1.imp fun _ _ t => t.oth o1) (Nat.le_succ N) (by omega)
    have t1' := t1.oth o1
    have hNs : N + 1 ≤ 100000 := by omega
    have dr1 := hA.rows.oth o1 (by simp [hA.br.symm])
    generalize eM : N + 1 = M at hA1 q hNs
    cases m with
    | text k x =>
      obtain ⟨b', _, v1, v2, e', eb', p0, p1, p2⟩ := IsT.inv3 t1'
      obtain rfl := p0.of_str
      cases e'
      exact ⟨_, rfl, b, _, _, _, rfl, rfl, SqT.of eb', at0, rfl, _, rfl, iteF (q ad H1 hA1)⟩
    | input k x =>
      obtain ⟨b', _, v1, v2, v3, e', eb', p0, p1, p2, p3⟩ := IsT.inv4 t1'
      obtain rfl := p0.of_str
      cases e'
      exact ⟨_, rfl, b, _, _, _, rfl, rfl, SqT.of eb', at0, rfl, _, rfl, iteF (q ad H1 hA1)⟩
    | box k t is =>
      obtain ⟨b', _, v1, v2, v3, e', eb', p0, p1, p2, p3⟩ := IsT.inv4 t1'
      obtain rfl := p0.of_str
      obtain rfl := p1.of_int
      cases e'
      refine ⟨_, rfl, b, _, _, _, rfl, rfl, SqT.of eb', at0, rfl, _, rfl, iteT ⟨sz, fun u hu => ?_⟩⟩
      have ou := Oth.new (S := []) (o := .lst []) hu
      have hA2 := hA1.to ou
      obtain ⟨dx2, hob2⟩ := hA2.ob
      have hu0 := back hA1.oth hu (by simp)
      have hun : ∀ j l, (Gw.rows { g with bare := setF g.bare (some (Sn.box k t is).num) (some (Sn.box k t is)) }) j = some l → ad j ≠ u := fun j l e => ne_of_none (hA1.lists j l e).1 hu
      refine ⟨_, rfl, s, C, dx2, _, _, rfl, hob2, TC, nr, gF_r, _, rfl, b, _, _, _, rfl, rfl, SqT.of (ou.tup _ _ eb'), at1, (dr1.oth ou (by simp)).put (j := some k) (x := u) (Nat.lt_of_le_of_lt lN (by decide)) rfl fun H3 o3 d3 => ?_⟩
      rw [eM] at d3
      exact q _ H3 (hA2.fresh (k := some k) hu0 upd_same hun o3 d3 (Nat.le_refl _) hNs)
  | put n p b =>
    obtain ⟨h1, h2⟩ := hok
    obtain ⟨a, _, _, _, _, rfl, ea, t0, t1, t2, t3⟩ := IsT.inv4 tv
    obtain rfl := t0.of_str
    obtain rfl := t1.of_int
    obtain rfl := k0T_inv t2
    obtain rfl := k0T_inv t3
    refine ⟨_, rfl, case_len (SqT.of ea) (by simp) (case_len (SqT.of ea) (by simp) (case_len (SqT.of ea) (by simp) (case_len (SqT.of ea) (by simp) (case_hit (SqT.of ea) rfl ⟨_, _, rfl, _, _, rfl, _, _, rfl, ?_⟩))))⟩
    refine ⟨_, rfl, s, dx, _, rfl, hob, gF_no (by decide +kernel) (by decide +kernel) (by decide +kernel), _, rfl, H0, s, db, dr, da, ad, g, N, n, rfl, hA, h1, fun H1 hA1 => ?_⟩
    obtain ⟨dx2, hob2⟩ := hA1.ob
    refine ⟨_, rfl, s, dx2, _, rfl, hob2, gF_no (by decide +kernel) (by decide +kernel) (by decide +kernel), _, rfl, _, rfl, _, rfl, H0, s, db, dr, da, ad, g.leave n, N, n, p, b, rfl, hA1, h2, hN, fun H2 hA2 => ?_⟩
    exact q ad H2 hA2
theorem ok_ginit {f fL fR fB C : Addr} {fd dL dR dB : FuncData} {k n : Nat} (F : Fun K "__init__" "Growing.__init__" sGInit f fd) (TC : Cls K C) (nb : NoAttr K C "bare") (nr : NoAttr K C "rows") (na : NoAttr K C "around")
    (GTl : FnOk P w K mg base CX0 k fL dL ["nodes", "parent"] (spListed n)) (bTl : Binds K dL ["nodes", "parent"] []) (kTl : PySem.W.keepIn K (.ref fL) = true) (mTl : mg "_listed" = some (.ref fL))
    (GTr : FnOk P w K mg base CX0 k fR dR ["tree"] (spRowsD n)) (bTr : Binds K dR ["tree"] []) (kTr : PySem.W.keepIn K (.ref fR) = true) (mTr : mg "_rows" = some (.ref fR))
    (GTb : FnOk P w K mg base CX0 k fB dB ["node"] spBare) (bTb : Binds K dB ["node"] []) (kTb : PySem.W.keepIn K (.ref fB) = true) (mTb : mg "_bare" = some (.ref fB)) :
    FnOk P w K mg base CX0 (k + 1) f fd ["self", "tree"] (spGInit P w C n) := by
  refine F.ok scGInit (fun vs H Q E h => ?_) (fun cdv A outer s' H vs Q E' hr h => ?_)
  · obtain ⟨H0, s, dx, B, v, rfl, _⟩ := h
    rfl
  obtain ⟨H0, s, dx, B, v, rfl, o0, hs, hs0, tv, hh, hc, nk, q⟩ := h
  have nd := scGInit.nd
  have hu20 := Room.u20 hr
  refine ⟨_, (pss_cons (ps_fld (pv 0) pe_dnewL rfl)
  (pss_cons (ps_fld (pv 0) (pe_dcLI (own := [("parent", 2), ("numbers", 4)]) (g := gTup K 2 (gCons (gName 2) (gCons (gName 4) gNil))) (tt := tYes) hu20 rfl nd (pi_list (pe_call GTr hr rfl mTr kTr bTr .nil pass0 (pa_cons (pv 1) pa_nil))) (blkOk_by (N := ["self", "tree", "parent", "node", "numbers"]) (sc := defScope sGInit) (by decide +kernel)) (fun _ _ _ _ _ => (pg_tup rfl (pgs_cons (pg_name (i := 2) nd rfl (.inl rfl)) (pgs_cons (pg_name (i := 4) nd rfl (.inl rfl)) pgs_nil)))) (fun _ _ _ _ _ => pts_nil) (fun _ _ _ _ _ => (pv 2)) (fun _ _ _ _ _ => (pv 4))) rfl)
  (pss_cons (ps_fld (pv 0) pe_dnewL rfl)
  (pss_one (ps_for PassesOwn.never rfl (pi_list (pe_call GTl hr rfl mTl kTl bTl .nil pass0 (pa_cons (pv 1) (pa_cons pe_non pa_nil)))) (pg_tup rfl (pgs_cons (pg_name (i := 2) nd rfl (.inl rfl)) (pgs_cons (pg_name (i := 3) nd rfl (.inl rfl)) pgs_nil)))
  (pss_cons (ps_asg (pe_call GTb hr rfl mTb kTb bTb .nil pass0 (pa_cons (pv 3) pa_nil)) (pg_sub (pe_fld (pv 0) rfl) (pe_ix ix_tup (pv 3) pe_int (fun _ _ => rfl)) set_leaf))
  (pss_one (ps_asg (pv 2) (pg_sub (pe_fld (pv 0) rfl) (pe_ix ix_tup (pv 3) pe_int (fun _ _ => rfl)) set_leaf))))))))), ?_⟩
  -- the bare nodes
  refine fun db H1 hdb o1 _ d1 => ⟨_, rfl, s, C, dx, [], rfl, o1.keep s _ (by simp) hs, TC, nb, (by decide), ?_⟩
  rw [putF_nil]
  have hs1 := o1.keep s _ (by simp) hs
  have i1 : Oth [s] H1 (upd H1 s (.ins C dx [("bare", .ref db)])) := Oth.ins (List.mem_singleton.mpr rfl) hs1
  have hs2 : (upd H1 s (.ins C dx [("bare", .ref db)])) s = some (.ins C dx [("bare", .ref db)]) := upd_same
  obtain ⟨_, edb⟩ := d1.is
  have nsb : s ≠ db := ne_of hs1 edb (fun z => nomatch z)
  have d2 := d1.oth i1 (by simp [nsb.symm])
  have t2 := (tv.oth o1).oth i1
  have o02 : Oth [s] H (upd H1 s (.ins C dx [("bare", .ref db)])) := (o1.mono (by simp)).trans i1
  generalize upd H1 s (.ins C dx [("bare", .ref db)]) = H2 at hs2 d2 t2 o02
  -- the rows
  refine ⟨_, rfl, B, _, rfl, t2, hh, hc, fun r4 us4 fz H3 hr4 er4 efz nfz pr4 o3 => ⟨r4, rfl, ⟨us4, SqL.of er4⟩, fun dr H4 hdr o4 d0 => dcLI_list (xs := us4)
    (fun i H5 => DicL P w H5 dr (fun (x : List Nat × Addr) v => v = .ref x.2) (fz.take i) ∧ Oth [dr] H3 H5)
    ⟨DicL.nil d0, o4.mono (by simp)⟩ (fun i H5 _ hW => ?_) (fun i x H5 hx hW => ?_) (fun H5 hW => ?_)⟩⟩
  · exact SqL.of (hW.2.keep r4 _ (by simp [ne_of_none er4 hdr]) er4)
  · obtain ⟨d, o5⟩ := hW
    obtain ⟨fm, gf, ft⟩ := pmem pr4 hx
    obtain ⟨t, rfl, et, hla, hla9⟩ := ft
    have hi : i < fz.length := (List.getElem?_eq_some_iff.mp gf).1
    have lf := famN_many B
    have lz := congrArg List.length efz
    rw [List.length_map] at lz
    refine ⟨t, _, rfl, SqT.of (o5.tup _ _ et), rfl, _, _, rfl, _, _, rfl, rfl, rfl, _, rfl, _, rfl, ?_⟩
    refine d.put (j := fm.1) (x := fm.2) (Nat.lt_of_le_of_lt (by rw [List.length_take]; omega : _ ≤ 1001) (by decide)) rfl fun H6 o6 d6 => ⟨?_, o5.trans o6⟩
    rw [take_snoc gf]
    exact d6
  obtain ⟨dd, o5⟩ := hW
  have lus4 : us4.length = fz.length := (pget pr4).1
  rw [lus4, List.take_length] at dd
  have hs3 := o3.keep s _ (by simp) hs2
  have nsr : s ≠ dr := ne_of_none hs3 hdr
  have hs5 := o5.keep s _ (by simp [nsr]) hs3
  have ndr : db ≠ dr := (d2.oth o3 (by simp)).ne hdr
  refine ⟨_, rfl, s, C, dx, _, rfl, hs5, TC, nr, (by show 1 < 1000; decide), ?_⟩
  rw [putF_tl g_br, putF_nil]
  have i6 : Oth [s] H5 (upd H5 s (.ins C dx [("bare", .ref db), ("rows", .ref dr)])) := Oth.ins (List.mem_singleton.mpr rfl) hs5
  have hs6 : (upd H5 s (.ins C dx [("bare", .ref db), ("rows", .ref dr)])) s = some (.ins C dx [("bare", .ref db), ("rows", .ref dr)]) := upd_same
  have dd6 := dd.oth i6 (by simp [nsr.symm])
  have d26 := ((d2.oth o3 (by simp)).oth o5 (by simp [ndr])).oth i6 (by simp [nsb.symm])
  have o36 : Oth [dr, s] H3 (upd H5 s (.ins C dx [("bare", .ref db), ("rows", .ref dr)])) := (o5.mono (by simp)).trans (i6.mono (by simp))
  generalize upd H5 s (.ins C dx [("bare", .ref db), ("rows", .ref dr)]) = H6 at hs6 dd6 d26 o36
  -- what is around
  refine fun da H7 hda o7 _ d7 => ⟨_, rfl, s, C, dx, _, rfl, o7.keep s _ (by simp) hs6, TC, na, (by show 2 < 1000; decide), ?_⟩
  rw [gF_put]
  have hs7 := o7.keep s _ (by simp) hs6
  obtain ⟨_, eda⟩ := d7.is
  have nsa : s ≠ da := ne_of hs7 eda (fun z => nomatch z)
  have i8 : Oth [s] H7 (upd H7 s (.ins C dx (gFlds db dr da))) := Oth.ins (List.mem_singleton.mpr rfl) hs7
  have hs8 : (upd H7 s (.ins C dx (gFlds db dr da))) s = some (.ins C dx (gFlds db dr da)) := upd_same
  have d8 := d7.oth i8 (by simp [nsa.symm])
  have dd8 := (dd6.oth o7 (by simp)).oth i8 (by simp [nsr.symm])
  have o38 : Oth [dr, s] H3 (upd H7 s (.ins C dx (gFlds db dr da))) := o36.trans ((o7.mono (by simp)).trans (i8.mono (by simp)))
  have d28 : DicL P w (upd H7 s (.ins C dx (gFlds db dr da))) db (fun (m : Sn) u => IsT (upd H7 s (.ins C dx (gFlds db dr da))) m.toT u) [] := DicL.nil ((d26.oth o7 (by simp)).oth i8 (by simp [nsb.symm]))
  have f36 : ∀ l xs, H3 l = some (.lst xs) → (upd H7 s (.ins C dx (gFlds db dr da))) l = some (.lst xs) := fun l xs e => o38.keep l _ (by
    have n1 : l ≠ dr := ne_of_none e hdr
    have n2 : l ≠ s := ne_of e hs3 (fun z => nomatch z)
    simp [n1, n2]) e
  have t8 : IsT (upd H7 s (.ins C dx (gFlds db dr da))) (.tup (Sn.toTs B)) v := (t2.oth o3).oth o38
  have hda6 := hda
  generalize hH8 : upd H7 s (.ins C dx (gFlds db dr da)) = H8 at hs8 d8 dd8 o38 d28 f36 t8
  have ndb : db ≠ da := d26.ne hda
  have nra : dr ≠ da := dd6.ne hda
  have hd0 : H0 db = none := back o0 hdb (by simp)
  have hr0 : H0 dr = none := back o0 (back o02 (back o3 hdr (by simp)) (by simp [nsr.symm])) (by simp)
  have ha0 : H0 da = none := back o0 (back o02 (back o3 (back o36 hda (by simp [nra.symm, nsa.symm])) (by simp)) (by simp [nsa.symm])) (by simp)
  refine ⟨_, rfl, B, none, _, rfl, t8, hh, hc, fun r us H9 hr9 er pr o9 => ?_⟩
  have lus : us.length = (Sn.lst none B).length := by rw [(paired_get pr).1, List.length_map]
  have lB := Sn.all_len none B
  refine ⟨r, rfl, ⟨us, SqL.of er⟩, for_list (xs := us)
    (fun i σ H1 => ∃ (x2 x3 : Option V), σ = [some (.ref s), some v, x2, x3, none] ∧ Oth [db, da] H9 H1 ∧ DicL P w H1 db (fun (m : Sn) u => IsT H1 m.toT u) (((Sn.lst none B).take i).map fun q => (some q.2.num, q.2.bare)) ∧
      DicL P w H1 da (fun (p : Key0) v => v = k0V p) (((Sn.lst none B).take i).map fun q => (some q.2.num, q.1)))
    ⟨none, none, rfl, Oth.refl, (d28.oth o9 (by simp)).imp fun _ _ t => t.oth o9, DicL.nil (d8.oth o9 (by simp))⟩ (fun i σ H1 _ hW => ?_) (fun i x σ H1 hx hW => ?_) (fun σ H1 hW => ?_)⟩
  · obtain ⟨_, _, _, o1, _, _⟩ := hW
    exact SqL.of (o1.keep r _ (by simp [(d28.ne hr9).symm, (d8.ne hr9).symm]) er)
  · obtain ⟨x2, x3, rfl, o1, e1, e2⟩ := hW
    have hi : i < (Sn.lst none B).length := by rw [← lus]; exact (List.getElem?_eq_some_iff.mp hx).1
    obtain ⟨it, gi⟩ : ∃ it, (Sn.lst none B)[i]? = some it := ⟨_, List.getElem?_eq_getElem hi⟩
    have ti : IsT H1 (itT it) x := ((paired_get pr).2 i _ _ (by rw [List.getElem?_map, gi]; rfl) hx).oth o1
    obtain ⟨ai, y1, y2, rfl, eai, k1, k2⟩ := IsT.inv2 ti
    obtain ⟨b, y, ys, rfl, eb, ey⟩ := sn_num k2
    obtain rfl := k0T_inv k1
    have hs1 := o1.keep s _ (by simp [nsb, nsa]) (o9.keep s _ (by simp) hs8)
    refine ⟨ai, _, rfl, SqT.of eai, rfl, _, _, rfl, _, _, rfl, rfl, ?_⟩
    refine ⟨_, rfl, it.2, _, rfl, k2, fun rb H2' tb o2 => ?_⟩
    have hs2' := o2.keep s _ (by simp) hs1
    refine ⟨_, rfl, s, C, dx, _, _, rfl, hs2', TC, nb, gF_b, _, rfl, b, _, _, _, rfl, rfl, SqT.of (o2.tup _ _ eb), ey, ?_⟩
    have l1 : (((Sn.lst none B).take i).map fun q => ((some q.2.num : Key0), q.2.bare)).length < sizeLine := Nat.lt_of_le_of_lt (by rw [List.length_map, List.length_take]; omega : _ ≤ 1000) (by decide)
    have l2 : (((Sn.lst none B).take i).map fun q => ((some q.2.num : Key0), q.1)).length < sizeLine := Nat.lt_of_le_of_lt (by rw [List.length_map, List.length_take]; omega : _ ≤ 1000) (by decide)
    refine ((e1.oth o2 (by simp)).imp fun _ _ t => t.oth o2).put (j := some it.2.num) (x := it.2.bare) l1 tb fun H3' o3' e1' => ?_
    have hs3' := o3'.keep s _ (by simp [nsb]) hs2'
    refine ⟨_, rfl, _, rfl, s, C, dx, _, _, rfl, hs3', TC, na, gF_a, _, rfl, b, _, _, _, rfl, rfl, SqT.of (o3'.tup _ _ (o2.tup _ _ eb)), ey, ?_⟩
    refine ((e2.oth o2 (by simp)).oth o3' (by simp [ndb.symm])).put (j := some it.2.num) (x := it.1) l2 rfl fun H4' o4' e2' => ?_
    refine ⟨_, _, rfl, o1.trans ((o2.mono (by simp)).trans ((o3'.mono (by simp)).trans (o4'.mono (by simp)))), ?_, ?_⟩
    · rw [take_snoc gi, List.map_append]
      exact (e1'.oth o4' (by simp [ndb])).imp fun _ _ t => (t.oth o3').oth o4'
    · rw [take_snoc gi, List.map_append]
      exact e2'
  · obtain ⟨x2, x3, rfl, o1, e1, e2⟩ := hW
    rw [lus, List.take_length] at e1 e2
    have hs1 := o1.keep s _ (by simp [nsb, nsa]) (o9.keep s _ (by simp) hs8)
    have dd1 := (dd8.oth o9 (by simp)).oth o1 (by simp [ndr.symm, nra])
    have l1 : (((Sn.lst none B)).map fun q => ((some q.2.num : Key0), q.2.bare)).length ≤ 2000 := by rw [List.length_map]; omega
    have l2 : (((Sn.lst none B)).map fun q => ((some q.2.num : Key0), q.1)).length ≤ 2000 := by rw [List.length_map]; omega
    have lz := congrArg List.length efz
    rw [List.length_map] at lz
    have lf := famN_many B
    refine q db dr da (fun k => ((lastV fz k).map (·.2)).getD db) H1 ?_
    have ek : ∀ k, (Gw.start B).rows k = (lastV fz k).map (·.1) := fun k => by
      show lastV (famN B) k = _
      rw [← efz, lastV_map]
    refine ⟨?_, ⟨dx, hs1⟩, (e1.toF.mono l1).same fun k => ?_, ((dd1.toF.mono (by omega : _ ≤ 2000)).of_map ?_), (e2.toF.mono l2), fun k l e => ?_, fun k k' l l' e e' ea => ?_, hd0, hr0, ha0, ndr, ndb, nra, by omega⟩
    · exact Oth.drop (Oth.drop (Oth.drop (Oth.drop (p := s) (((((o0.mono (S' := [s, dr, db, da]) (by simp)).trans (o02.mono (by simp))).trans (o3.mono (by simp))).trans (o38.mono (by simp))).trans ((o9.mono (by simp)).trans (o1.mono (by simp)))) hs0) hr0) hd0) ha0
    · show (lastV (numK (Sn.all B)) k).map Sn.bare = _
      rw [numK_lst, ← lastV_map, List.map_map]
      rfl
    · intro k
      cases e : lastV fz k with
      | none => exact .inl ⟨rfl, by rw [ek, e]; rfl⟩
      | some x => exact .inr ⟨x, x.2, rfl, by rw [ek, e]; rfl, fun _ h => h⟩
    · rw [ek] at e
      cases e5 : lastV fz k with
      | none => rw [e5] at e; cases e
      | some x =>
        rw [e5] at e
        cases e
        have m := lastV_mem e5
        obtain ⟨u, _, t, rfl, et, hla, hla2⟩ := pmem_of pr4 m
        have hla : H3 x.2 = some (.lst (intL x.1)) := hla
        have hla2 : H2 x.2 = none := hla2
        have m2 : (k, x.1) ∈ famN B := by rw [← efz]; exact List.mem_map.mpr ⟨_, m, rfl⟩
        have h8 := f36 _ _ hla
        obtain ⟨_, eb8⟩ := d28.toF.is
        obtain ⟨_, ea8⟩ := d8.is
        have n1 : x.2 ≠ db := ne_of h8 eb8 (fun z => nomatch z)
        have n2 : x.2 ≠ da := ne_of h8 ea8 (fun z => nomatch z)
        have n3 : x.2 ≠ s := ne_of hla hs3 (fun z => nomatch z)
        exact ⟨o1.keep _ _ (by simp [n1, n2]) (o9.keep _ _ (by simp) h8), Nat.le_trans (show x.1.length ≤ _ from famN_len m2) (by omega), back o0 (back o02 hla2 (by simp [n3])) (by simp)⟩
    · rw [ek] at e e'
      cases e5 : lastV fz k with
      | none => rw [e5] at e; cases e
      | some x =>
        cases e6 : lastV fz k' with
        | none => rw [e6] at e'; cases e'
        | some y =>
          rw [e5, e6] at ea
          have ea : x.2 = y.2 := ea
          have h1 := lastV_mem e5
          have h2 := lastV_mem e6
          obtain ⟨i, hi, g1⟩ := List.mem_iff_getElem.mp h1
          obtain ⟨j, hj, g2⟩ := List.mem_iff_getElem.mp h2
          have : i = j := by
            refine (List.getElem_inj (h₀ := by rw [List.length_map]; exact hi) (h₁ := by rw [List.length_map]; exact hj) nfz).mp ?_
            rw [List.getElem_map, List.getElem_map, g1, g2]
            exact ea
          subst this
          rw [g1] at g2
          exact congrArg Prod.fst g2
theorem ok_apply {f fI fC fT C : Addr} {fd dI dC dT : FuncData} {k n : Nat} (F : Fun K "apply_patch" "apply_patch" sApply f fd) (TC : Cls K C)
    (MkGi : Mk K C fI) (mGrowing : mg "Growing" = some (.ref C)) (GGi : FnOk P w K mg base CX0 k fI dI ["self", "tree"] (spGInit P w C n)) (bGi : Binds K dI ["self", "tree"] [])
    (GGch : FnOk P w K mg base CX0 (k + 1) fC dC ["self", "operation"] (spGChange P w C)) (bGch : Binds K dC ["self", "operation"] []) (mtGch : Meth K C "change" fC)
    (GGtr : FnOk P w K mg base CX0 (k + 1) fT dT ["self", "parent"] (spGTree P w C n)) (bGtr : Binds K dT ["self", "parent"] []) (mtGtr : Meth K C "tree" fT) :
    FnOk P w K mg base CX0 (k + 2) f fd ["tree", "operations"] (spApply n) := by
  refine F.ok scApply (fun vs H Q E h => ?_) (fun cdv A outer s' H vs Q E' hr h => ?_)
  · obtain ⟨B, Aa, ops, v1, v2, rfl, _⟩ := h
    rfl
  obtain ⟨B, Aa, ops, v1, v2, rfl, tb, to, hB, hA, cB, nk, lo, hrun, hgrow, q⟩ := h
  have nd := scApply.nd
  have hu20 := Room.u20 hr
  refine ⟨_, (pss_cons (ps_set (i := 2) nd rfl (.inl rfl) (pe_make MkGi GGi hr rfl mGrowing bGi .nil pass0 (pa_cons (pv 0) pa_nil)))
  (pss_cons (ps_for PassesOwn.never rfl (pi_tup (pv 1)) (pg_name (i := 3) nd rfl (.inl rfl))
  (pss_one (ps_expr (pe_meth (pv 2) TC mtGch GGch hr bGch .nil pass0 (pa_cons (pv 3) pa_nil)))))
  (pss_one (ps_ret (pe_meth (pv 2) TC mtGtr GGtr hr bGtr .nil pass0 (pa_cons pe_non pa_nil)))))), ?_⟩
  refine ⟨_, rfl, fun x dx hx hdx ne => ?_⟩
  have ox : Oth [] H (upd (upd H dx (.own x)) x (.ins C dx [])) := (Oth.new hdx).trans (Oth.new (by rw [upd_ne (Ne.symm ne)]; exact hx))
  refine ⟨H, x, dx, B, v1, rfl, ox, upd_same, hx, tb.oth ox, hB, cB, nk, fun db dr da ad H1 hA1 => ⟨rfl, ?_⟩⟩
  obtain ⟨ao, xo, rfl, eo, po⟩ := to.inv
  have lxo : xo.length = ops.length := by rw [(paired_get po).1, List.length_map]
  have h0s := hA1.oth
  refine ⟨_, rfl, ao, rfl, ⟨xo, SqT.of (h0s.tup _ _ eo)⟩, for_tup (xs := xo)
    (fun i σ H2 => ∃ (x3 : Option V) (ad : Key0 → Addr), σ = [some v1, some (.ref ao), some (.ref x), x3] ∧ GrowAt P w C H H2 x db dr da ad ((Gw.start B).run (ops.take i)) (2000 + i))
    ⟨none, ad, rfl, hA1⟩ (fun i σ H2 _ hW => ?_) (fun i y σ H2 hy hW => ?_) (fun σ H2 hW => ?_)⟩
  · obtain ⟨_, _, _, g⟩ := hW
    exact SqT.of (g.oth.tup _ _ eo)
  · obtain ⟨x3, ad2, rfl, g⟩ := hW
    have hi : i < ops.length := by rw [← lxo]; exact (List.getElem?_eq_some_iff.mp hy).1
    obtain ⟨op, gi⟩ : ∃ op, ops[i]? = some op := ⟨_, List.getElem?_eq_getElem hi⟩
    have ti : IsT H2 op.toT y := ((paired_get po).2 i _ _ (by rw [List.getElem?_map, gi]; rfl) hy).oth g.oth
    obtain ⟨dx2, hob⟩ := g.ob
    refine ⟨_, rfl, x, dx2, _, rfl, hob, gF_no (by decide +kernel) (by decide +kernel) (by decide +kernel), _, rfl, H, x, db, dr, da, ad2, _, 2000 + i, op, y, rfl, g, ti, Gw.runs_at hrun gi, by omega, fun ad3 H3 g3 => ?_⟩
    refine ⟨_, ad3, rfl, ?_⟩
    rw [take_snoc gi, Gw.run_app]
    exact g3
  · obtain ⟨x3, ad2, rfl, g⟩ := hW
    rw [lxo, List.take_length] at g
    obtain ⟨dx2, hob⟩ := g.ob
    refine ⟨_, rfl, x, dx2, _, rfl, hob, gF_no (by decide +kernel) (by decide +kernel) (by decide +kernel), H, x, db, dr, da, ad2, _, _, none, Aa, rfl, g, hgrow, hA, fun r H3 tr o3 => ?_⟩
    exact q r H3 tr (g.oth.trans o3)
end
abbrev sLWo : Stmt := topS 19
abbrev sLVa : Stmt := topS 20
abbrev sLTx : Stmt := topS 21
theorem scLWo : FnScope ["nodes", "number", "made", "node"] ["nodes", "number"] (defScope sLWo) := ⟨rfl, rfl, rfl, by decide +kernel, rfl, by decide +kernel, by decide +kernel⟩
theorem scLVa : FnScope ["nodes", "number", "value", "made", "node"] ["nodes", "number", "value"] (defScope sLVa) := ⟨rfl, rfl, rfl, by decide +kernel, rfl, by decide +kernel, by decide +kernel⟩
theorem scLTx : FnScope ["nodes", "number", "characters", "made", "node"] ["nodes", "number", "characters"] (defScope sLTx) := ⟨rfl, rfl, rfl, by decide +kernel, rfl, by decide +kernel, by decide +kernel⟩
section
variable {P : Program} {w : World} {K : PySem.W.Frag} {mg : Str → Option Value} {base : Heap}
theorem ok_wo {f : Addr} {fd : FuncData} {k n : Nat} (F : Fun K "_law_without" "_law_without" sLWo f fd)
    (GLwo : FnOk P w K mg base CX0 k f fd ["nodes", "number"] (spWo n)) (bLwo : Binds K fd ["nodes", "number"] []) (kLwo : PySem.W.keepIn K (.ref f) = true) (mLwo : mg "_law_without" = some (.ref f)) (m_tuple : mg "tuple" = none) :
    FnOk P w K mg base CX0 (k + 1) f fd ["nodes", "number"] (spWo (n + 1)) := by
  refine F.ok scLWo (fun vs H Q E h => ?_) (fun cdv A outer s H vs Q E' hr h => ?_)
  · obtain ⟨ns, v, k, rfl, _⟩ := h
    rfl
  obtain ⟨ns, v, k, rfl, tv, hh, hc, q⟩ := h
  have nd := scLWo.nd
  refine ⟨_, (pss_cons (ps_set (i := 2) nd rfl (.inl rfl) (pe_lst pa_nil))
  (pss_cons (ps_for PassesOwn.never rfl (pi_tup (pv 0)) (pg_name (i := 3) nd rfl (.inl rfl))
  (pss_one (ps_if (pt_cmpR op_ne (pe_ix ix_tup (pv 3) pe_int (fun _ _ => rfl)) (pv 1) (nomark _))
  (pss_cut (ps_if (pt_cmpR op_eq (pe_ix ix_tup (pv 3) pe_int (fun _ _ => rfl)) pe_str (nomark _))
  (pss_one (ps_set (i := 3) nd rfl (.inl rfl) (pe_op op_catA (pe_slice sl_tupA (pv 3) po_none (po_some pe_int)) (pe_tup (pa_cons (pe_call GLwo hr rfl mLwo kLwo bLwo .nil pass0 (pa_cons (pe_ix ix_tup (pv 3) pe_int (fun _ _ => rfl)) (pa_cons (pv 1) pa_nil))) pa_nil)))))
  pss_nil)
  (pss_one (ps_expr (pe_bm PySem.F.plainAttrs_list PySem.F.slot_list_append PySem.F.type_list_append mt_append (pv 2) (pa_cons (pv 3) pa_nil)))))
  pss_nil)))
  (pss_one (ps_ret (pe_tupleOf (by rfl) m_tuple (pv 2)))))), ?_⟩
  obtain ⟨a, xs, rfl, ea, pa⟩ := tv.inv
  have lx : xs.length = ns.length := by rw [(paired_get pa).1, Sn.toTs_map, List.length_map]
  refine ⟨sz, fun p hp => ?_⟩
  have o0 := Oth.new (S := []) (o := .lst []) hp
  refine ⟨_, rfl, a, rfl, ⟨xs, SqT.of (o0.tup _ _ ea)⟩, for_tup (xs := xs)
    (fun j σ H1 => ∃ (x3 : Option V) (out : List V), σ = [some (.ref a), some (.int (k : Int)), some (.ref p), x3] ∧ Oth [p] H H1 ∧ H1 p = some (.lst out) ∧ Paired (IsT H1) ((Sn.wos k (ns.take j)).map Sn.toT) out)
    ⟨none, [], rfl, o0.mono (by simp), upd_same, .nil⟩ (fun j σ H1 _ hW => ?_) (fun j x σ H1 hx hW => ?_) (fun σ H1 hW => ?_)⟩
  · obtain ⟨_, _, _, o1, _⟩ := hW
    exact SqT.of (o1.tup _ _ ea)
  · obtain ⟨x3, out, rfl, o1, hp1, po1⟩ := hW
    have hj : j < ns.length := by rw [← lx]; exact (List.getElem?_eq_some_iff.mp hx).1
    obtain ⟨n1, gn⟩ : ∃ nd, ns[j]? = some nd := ⟨ns[j], List.getElem?_eq_getElem hj⟩
    have tn : IsT H1 n1.toT x := ((paired_get pa).2 j _ _ (by rw [Sn.toTs_map, List.getElem?_map, gn]; rfl) hx).oth o1
    have mem := List.mem_of_getElem? gn
    have hhn := Sn.hts_mem mem
    have hcn := Sn.kids_len mem
    have lall := Sn.len_all ns
    have lout : out.length ≤ 1000 := by
      have h1 := (paired_get po1).1
      rw [List.length_map] at h1
      have := wos_len k (ns.take j)
      rw [List.length_take] at this
      omega
    have es : Sn.wos k (ns.take (j + 1)) = Sn.wos k (ns.take j) ++ (if n1.num = k then [] else [n1.wo1 k]) := by
      rw [take_snoc gn, wos_app]
      exact congrArg _ (wos_cons k n1 [])
    obtain ⟨b, y, ys, rfl, eb, ey⟩ := sn_num tn
    refine ⟨_, rfl, b, _, _, _, rfl, rfl, SqT.of eb, ey, _, rfl, rfl, _, rfl, ?_⟩
    by_cases hk : n1.num = k
    · refine iteFb (by simp [hk]) ⟨_, out, rfl, o1, hp1, ?_⟩
      rw [es, if_pos hk, List.append_nil]
      exact po1
    · rw [if_neg hk] at es
      refine iteTb (by simp; omega) ?_
      have fin : ∀ (H9 : Hp) (z : V), Oth [] H1 H9 → IsT H9 (n1.wo1 k).toT z →
          ∃ (x3 : Option V) (out' : List V), ([some (.ref a), some (.int (k : Int)), some (.ref p), some z] : L2.St) = [some (.ref a), some (.int (k : Int)), some (.ref p), x3] ∧ Oth [p] H (upd H9 p (.lst (out ++ [z]))) ∧ (upd H9 p (.lst (out ++ [z]))) p = some (.lst out') ∧ Paired (IsT (upd H9 p (.lst (out ++ [z])))) ((Sn.wos k (ns.take (j + 1))).map Sn.toT) out' := fun H9 z o9 tz => by
        have hp9 := o9.keep p _ (by simp) hp1
        have op : Oth [p] H9 (upd H9 p (.lst (out ++ [z]))) := Oth.put (by simp) hp9
        refine ⟨_, out ++ [z], rfl, o1.trans ((o9.mono (by simp)).trans op), upd_same, ?_⟩
        rw [es, List.map_append]
        exact paired_app (paired_oth (paired_oth po1 o9) op) (.cons (tz.oth op) .nil)
      cases n1 with
      | text q' s' =>
        obtain ⟨b', _, v1, v2, e', eb', p0, p1, p2⟩ := IsT.inv3 tn
        obtain rfl := p0.of_str
        cases e'
        exact ⟨fun σ H2 => σ = [some (.ref a), some (.int (k : Int)), some (.ref p), some (.ref b)] ∧ H2 = H1, ⟨_, rfl, b, _, _, _, rfl, rfl, SqT.of eb', at0, rfl, _, rfl, iteF ⟨rfl, rfl⟩⟩, fun σ' H' hm => by
          obtain ⟨rfl, rfl⟩ := hm
          exact ⟨_, rfl, .inl ⟨rfl, _, SqL.of hp1⟩, _, rfl, p, out, _, rfl, rfl, hp1, Nat.lt_of_le_of_lt lout (by decide), fin _ _ Oth.refl tn⟩⟩
      | input q' s' =>
        obtain ⟨b', _, v1, v2, v3, e', eb', p0, p1, p2, p3⟩ := IsT.inv4 tn
        obtain rfl := p0.of_str
        cases e'
        exact ⟨fun σ H2 => σ = [some (.ref a), some (.int (k : Int)), some (.ref p), some (.ref b)] ∧ H2 = H1, ⟨_, rfl, b, _, _, _, rfl, rfl, SqT.of eb', at0, rfl, _, rfl, iteF ⟨rfl, rfl⟩⟩, fun σ' H' hm => by
          obtain ⟨rfl, rfl⟩ := hm
          exact ⟨_, rfl, .inl ⟨rfl, _, SqL.of hp1⟩, _, rfl, p, out, _, rfl, rfl, hp1, Nat.lt_of_le_of_lt lout (by decide), fin _ _ Oth.refl tn⟩⟩
      | box q' t' inner =>
        obtain ⟨b', _, v1, v2, v3, e', eb', p0, p1, p2, p3⟩ := IsT.inv4 tn
        obtain rfl := p0.of_str
        cases e'
        simp only [Sn.ht] at hhn
        have hcn' : (Sn.all inner).length ≤ (Sn.all ns).length := hcn
        refine ⟨fun σ H2 => ∃ d, σ = [some (.ref a), some (.int (k : Int)), some (.ref p), some (.ref d)] ∧ Oth [] H1 H2 ∧ IsT H2 ((Sn.box q' t' inner).wo1 k).toT (.ref d), ⟨_, rfl, b, _, _, _, rfl, rfl, SqT.of eb', at0, rfl, _, rfl, iteT ?_⟩, fun σ' H' hm => ?_⟩
        · refine ⟨_, rfl, 3, rfl, sl_take (n := 3) eb' fun c H2 o2 e2 => ?_⟩
          refine ⟨_, rfl, b, _, _, _, rfl, rfl, SqT.of (o2.tup _ _ eb'), at3, _, rfl, inner, _, k, rfl, p3.oth o2, by omega, by omega, fun r H3 tr o3 => ⟨sz, fun u hu => ?_⟩⟩
          have ou := Oth.new (S := []) (o := .tup [r]) hu
          refine cat_t (ou.tup _ _ (o3.tup _ _ e2)) upd_same (by simp) fun d H4 o4 e4 => ?_
          have oa := o2.trans (o3.trans (ou.trans o4))
          exact ⟨d, rfl, oa, box_up (c := b) (u := b) oa eb' p1 p2 ((tr.oth ou).oth o4) e4⟩
        · obtain ⟨d, rfl, o2, td⟩ := hm
          have hp2 := o2.keep p _ (by simp) hp1
          exact ⟨_, rfl, .inl ⟨rfl, _, SqL.of hp2⟩, _, rfl, p, out, _, rfl, rfl, hp2, Nat.lt_of_le_of_lt lout (by decide), fin _ _ o2 td⟩
  · obtain ⟨x3, out, rfl, o1, hp1, po1⟩ := hW
    rw [lx, List.take_length] at po1
    refine ⟨_, rfl, .inl ⟨p, out, rfl, SqL.of hp1, fun a' ha' => ?_⟩⟩
    have on := Oth.new (S := []) (o := .tup out) ha'
    exact q _ _ (.mk upd_same (by rw [Sn.toTs_map]; exact paired_oth po1 on)) (Oth.drop (o1.trans (on.mono (by simp))) hp)

theorem ok_va {f : Addr} {fd : FuncData} {k n : Nat} (F : Fun K "_law_value_at" "_law_value_at" sLVa f fd)
    (GLva : FnOk P w K mg base CX0 k f fd ["nodes", "number", "value"] (spVa n)) (bLva : Binds K fd ["nodes", "number", "value"] []) (kLva : PySem.W.keepIn K (.ref f) = true) (mLva : mg "_law_value_at" = some (.ref f)) (m_tuple : mg "tuple" = none) :
    FnOk P w K mg base CX0 (k + 1) f fd ["nodes", "number", "value"] (spVa (n + 1)) := by
  refine F.ok scLVa (fun vs H Q E h => ?_) (fun cdv A outer s H vs Q E' hr h => ?_)
  · obtain ⟨ns, v, k, x, rfl, _⟩ := h
    rfl
  obtain ⟨ns, v, k, x, rfl, tv, hh, hc, hi, q⟩ := h
  have nd := scLVa.nd
  refine ⟨_, (pss_cons (ps_set (i := 3) nd rfl (.inl rfl) (pe_lst pa_nil))
  (pss_cons (ps_for PassesOwn.never rfl (pi_tup (pv 0)) (pg_name (i := 4) nd rfl (.inl rfl))
  (pss_one (ps_if (pt_cmpR op_eq (pe_ix ix_tup (pv 4) pe_int (fun _ _ => rfl)) (pv 1) (nomark _))
  (pss_one (ps_expr (pe_bm PySem.F.plainAttrs_list PySem.F.slot_list_append PySem.F.type_list_append mt_append (pv 3) (pa_cons (pe_tup (pa_cons pe_str (pa_cons (pv 1) (pa_cons (pe_ix ix_tup (pv 4) pe_int (fun _ _ => rfl)) (pa_cons (pv 2) pa_nil))))) pa_nil))))
  (pss_one (ps_if (pt_cmpR op_eq (pe_ix ix_tup (pv 4) pe_int (fun _ _ => rfl)) pe_str (nomark _))
  (pss_one (ps_expr (pe_bm PySem.F.plainAttrs_list PySem.F.slot_list_append PySem.F.type_list_append mt_append (pv 3) (pa_cons (pe_op op_catA (pe_slice sl_tupA (pv 4) po_none (po_some pe_int)) (pe_tup (pa_cons (pe_call GLva hr rfl mLva kLva bLva .nil pass0 (pa_cons (pe_ix ix_tup (pv 4) pe_int (fun _ _ => rfl)) (pa_cons (pv 1) (pa_cons (pv 2) pa_nil)))) pa_nil))) pa_nil))))
  (pss_one (ps_expr (pe_bm PySem.F.plainAttrs_list PySem.F.slot_list_append PySem.F.type_list_append mt_append (pv 3) (pa_cons (pv 4) pa_nil)))))))))
  (pss_one (ps_ret (pe_tupleOf (by rfl) m_tuple (pv 3)))))), ?_⟩
  obtain ⟨a, xs, rfl, ea, pa⟩ := tv.inv
  have lx : xs.length = ns.length := by rw [(paired_get pa).1, Sn.toTs_map, List.length_map]
  refine ⟨sz, fun p hp => ?_⟩
  have o0 := Oth.new (S := []) (o := .lst []) hp
  refine ⟨_, rfl, a, rfl, ⟨xs, SqT.of (o0.tup _ _ ea)⟩, for_tup (xs := xs)
    (fun j σ H1 => ∃ (x3 : Option V) (out : List V), σ = [some (.ref a), some (.int (k : Int)), some (.int x), some (.ref p), x3] ∧ Oth [p] H H1 ∧ H1 p = some (.lst out) ∧ Paired (IsT H1) ((Sn.pts (.input k x) (ns.take j)).map Sn.toT) out)
    ⟨none, [], rfl, o0.mono (by simp), upd_same, .nil⟩ (fun j σ H1 _ hW => ?_) (fun j x' σ H1 hx hW => ?_) (fun σ H1 hW => ?_)⟩
  · obtain ⟨_, _, _, o1, _⟩ := hW
    exact SqT.of (o1.tup _ _ ea)
  · obtain ⟨x3, out, rfl, o1, hp1, po1⟩ := hW
    have hj : j < ns.length := by rw [← lx]; exact (List.getElem?_eq_some_iff.mp hx).1
    obtain ⟨n1, gn⟩ : ∃ nd, ns[j]? = some nd := ⟨ns[j], List.getElem?_eq_getElem hj⟩
    have tn : IsT H1 n1.toT x' := ((paired_get pa).2 j _ _ (by rw [Sn.toTs_map, List.getElem?_map, gn]; rfl) hx).oth o1
    have mem := List.mem_of_getElem? gn
    have hhn := Sn.hts_mem mem
    have hcn := Sn.kids_len mem
    have lall := Sn.len_all ns
    have lout : out.length ≤ 1000 := by
      have h1 := (paired_get po1).1
      rw [List.length_map, pts_len, List.length_take] at h1
      omega
    have es : Sn.pts (.input k x) (ns.take (j + 1)) = Sn.pts (.input k x) (ns.take j) ++ [Sn.pt1 (.input k x) n1] := by
      rw [take_snoc gn, pts_app]
      rfl
    obtain ⟨b, y, ys, rfl, eb, ey⟩ := sn_num tn
    refine ⟨_, rfl, b, _, _, _, rfl, rfl, SqT.of eb, ey, _, rfl, rfl, _, rfl, ?_⟩
    have fin : ∀ (H9 : Hp) (z : V), Oth [] H1 H9 → IsT H9 (Sn.pt1 (.input k x) n1).toT z →
        ∃ (x3 : Option V) (out' : List V), ([some (.ref a), some (.int (k : Int)), some (.int x), some (.ref p), some (.ref b)] : L2.St) = [some (.ref a), some (.int (k : Int)), some (.int x), some (.ref p), x3] ∧ Oth [p] H (upd H9 p (.lst (out ++ [z]))) ∧ (upd H9 p (.lst (out ++ [z]))) p = some (.lst out') ∧ Paired (IsT (upd H9 p (.lst (out ++ [z])))) ((Sn.pts (.input k x) (ns.take (j + 1))).map Sn.toT) out' := fun H9 z o9 tz => by
      have hp9 := o9.keep p _ (by simp) hp1
      have op : Oth [p] H9 (upd H9 p (.lst (out ++ [z]))) := Oth.put (by simp) hp9
      refine ⟨_, out ++ [z], rfl, o1.trans ((o9.mono (by simp)).trans op), upd_same, ?_⟩
      rw [es, List.map_append]
      exact paired_app (paired_oth (paired_oth po1 o9) op) (.cons (tz.oth op) .nil)
    by_cases hk : n1.num = k
    · refine iteTb (by simp [hk]) ?_
      obtain ⟨y', e1⟩ := hi n1 (Sn.mem_all mem) hk
      subst e1
      obtain ⟨b', _, v1, v2, v3, e', eb', p0, p1, p2, p3⟩ := IsT.inv4 tn
      obtain rfl := p0.of_str
      obtain rfl := p2.of_str
      cases e'
      have e1 : Sn.pt1 (.input k x) (.input k y') = .input k x := if_pos rfl
      refine ⟨_, rfl, .inl ⟨rfl, _, SqL.of hp1⟩, _, rfl, _, rfl, b, _, _, _, rfl, rfl, SqT.of eb', at2, _, rfl, sz, fun t1 ht1 => ?_⟩
      have on := Oth.new (S := []) (o := .tup [.str "input", .int (k : Int), .str "q", .int x]) ht1
      exact ⟨p, out, _, rfl, rfl, on.keep p _ (by simp) hp1, Nat.lt_of_le_of_lt lout (by decide), fin _ _ on (by rw [e1]; exact .mk4 upd_same (.str _) (.int _) (.str _) (.int _))⟩
    · refine iteFb (by simp; omega) ?_
      cases n1 with
      | text q' s' =>
        obtain ⟨b', _, v1, v2, e', eb', p0, p1, p2⟩ := IsT.inv3 tn
        obtain rfl := p0.of_str
        cases e'
        have e1 : Sn.pt1 (.input k x) (.text q' s') = .text q' s' := if_neg hk
        exact ⟨_, rfl, b, _, _, _, rfl, rfl, SqT.of eb', at0, rfl, _, rfl, iteF ⟨_, rfl, .inl ⟨rfl, _, SqL.of hp1⟩, _, rfl, p, out, _, rfl, rfl, hp1, Nat.lt_of_le_of_lt lout (by decide), fin _ _ Oth.refl (by rw [e1]; exact tn)⟩⟩
      | input q' s' =>
        obtain ⟨b', _, v1, v2, v3, e', eb', p0, p1, p2, p3⟩ := IsT.inv4 tn
        obtain rfl := p0.of_str
        cases e'
        have e1 : Sn.pt1 (.input k x) (.input q' s') = .input q' s' := if_neg hk
        exact ⟨_, rfl, b, _, _, _, rfl, rfl, SqT.of eb', at0, rfl, _, rfl, iteF ⟨_, rfl, .inl ⟨rfl, _, SqL.of hp1⟩, _, rfl, p, out, _, rfl, rfl, hp1, Nat.lt_of_le_of_lt lout (by decide), fin _ _ Oth.refl (by rw [e1]; exact tn)⟩⟩
      | box q' t' inner =>
        obtain ⟨b', _, v1, v2, v3, e', eb', p0, p1, p2, p3⟩ := IsT.inv4 tn
        obtain rfl := p0.of_str
        cases e'
        simp only [Sn.ht] at hhn
        have hcn' : (Sn.all inner).length ≤ (Sn.all ns).length := hcn
        have e1 : Sn.pt1 (.input k x) (.box q' t' inner) = .box q' t' (Sn.pts (.input k x) inner) := if_neg hk
        refine ⟨_, rfl, b, _, _, _, rfl, rfl, SqT.of eb', at0, rfl, _, rfl, iteT ?_⟩
        refine ⟨_, rfl, .inl ⟨rfl, _, SqL.of hp1⟩, _, rfl, 3, rfl, sl_take (n := 3) eb' fun c H2 o2 e2 => ?_⟩
        refine ⟨_, rfl, b, _, _, _, rfl, rfl, SqT.of (o2.tup _ _ eb'), at3, _, rfl, _, rfl, inner, _, k, x, rfl, p3.oth o2, by omega, by omega, fun z hz => hi z (Sn.all_all (Sn.mem_all mem) hz), fun r H3 tr o3 => ⟨sz, fun u hu => ?_⟩⟩
        have ou := Oth.new (S := []) (o := .tup [r]) hu
        refine cat_t (ou.tup _ _ (o3.tup _ _ e2)) upd_same (by simp) fun d H4 o4 e4 => ?_
        have oa := o2.trans (o3.trans (ou.trans o4))
        exact ⟨p, out, _, rfl, rfl, oa.keep p _ (by simp) hp1, Nat.lt_of_le_of_lt lout (by decide), fin _ _ oa (by rw [e1]; exact box_up (c := b) (u := b) oa eb' p1 p2 ((tr.oth ou).oth o4) e4)⟩
  · obtain ⟨x3, out, rfl, o1, hp1, po1⟩ := hW
    rw [lx, List.take_length] at po1
    refine ⟨_, rfl, .inl ⟨p, out, rfl, SqL.of hp1, fun a' ha' => ?_⟩⟩
    have on := Oth.new (S := []) (o := .tup out) ha'
    exact q _ _ (.mk upd_same (by rw [Sn.toTs_map]; exact paired_oth po1 on)) (Oth.drop (o1.trans (on.mono (by simp))) hp)

theorem ok_tx {f : Addr} {fd : FuncData} {k n : Nat} (F : Fun K "_law_text" "_law_text" sLTx f fd)
    (GLtx : FnOk P w K mg base CX0 k f fd ["nodes", "number", "characters"] (spTx n)) (bLtx : Binds K fd ["nodes", "number", "characters"] []) (kLtx : PySem.W.keepIn K (.ref f) = true) (mLtx : mg "_law_text" = some (.ref f)) (m_tuple : mg "tuple" = none) :
    FnOk P w K mg base CX0 (k + 1) f fd ["nodes", "number", "characters"] (spTx (n + 1)) := by
  refine F.ok scLTx (fun vs H Q E h => ?_) (fun cdv A outer s H vs Q E' hr h => ?_)
  · obtain ⟨ns, v, k, x, rfl, _⟩ := h
    rfl
  obtain ⟨ns, v, k, x, rfl, tv, hh, hc, q⟩ := h
  have nd := scLTx.nd
  refine ⟨_, (pss_cons (ps_set (i := 3) nd rfl (.inl rfl) (pe_lst pa_nil))
  (pss_cons (ps_for PassesOwn.never rfl (pi_tup (pv 0)) (pg_name (i := 4) nd rfl (.inl rfl))
  (pss_one (ps_if (pt_cmpR op_eq (pe_ix ix_tup (pv 4) pe_int (fun _ _ => rfl)) (pv 1) (nomark _))
  (pss_one (ps_expr (pe_bm PySem.F.plainAttrs_list PySem.F.slot_list_append PySem.F.type_list_append mt_append (pv 3) (pa_cons (pe_tup (pa_cons pe_str (pa_cons (pv 1) (pa_cons (pv 2) pa_nil)))) pa_nil))))
  (pss_one (ps_if (pt_cmpR op_eq (pe_ix ix_tup (pv 4) pe_int (fun _ _ => rfl)) pe_str (nomark _))
  (pss_one (ps_expr (pe_bm PySem.F.plainAttrs_list PySem.F.slot_list_append PySem.F.type_list_append mt_append (pv 3) (pa_cons (pe_op op_catA (pe_slice sl_tupA (pv 4) po_none (po_some pe_int)) (pe_tup (pa_cons (pe_call GLtx hr rfl mLtx kLtx bLtx .nil pass0 (pa_cons (pe_ix ix_tup (pv 4) pe_int (fun _ _ => rfl)) (pa_cons (pv 1) (pa_cons (pv 2) pa_nil)))) pa_nil))) pa_nil))))
  (pss_one (ps_expr (pe_bm PySem.F.plainAttrs_list PySem.F.slot_list_append PySem.F.type_list_append mt_append (pv 3) (pa_cons (pv 4) pa_nil)))))))))
  (pss_one (ps_ret (pe_tupleOf (by rfl) m_tuple (pv 3)))))), ?_⟩
  obtain ⟨a, xs, rfl, ea, pa⟩ := tv.inv
  have lx : xs.length = ns.length := by rw [(paired_get pa).1, Sn.toTs_map, List.length_map]
  refine ⟨sz, fun p hp => ?_⟩
  have o0 := Oth.new (S := []) (o := .lst []) hp
  refine ⟨_, rfl, a, rfl, ⟨xs, SqT.of (o0.tup _ _ ea)⟩, for_tup (xs := xs)
    (fun j σ H1 => ∃ (x3 : Option V) (out : List V), σ = [some (.ref a), some (.int (k : Int)), some (.str x), some (.ref p), x3] ∧ Oth [p] H H1 ∧ H1 p = some (.lst out) ∧ Paired (IsT H1) ((Sn.pts (.text k x) (ns.take j)).map Sn.toT) out)
    ⟨none, [], rfl, o0.mono (by simp), upd_same, .nil⟩ (fun j σ H1 _ hW => ?_) (fun j x' σ H1 hx hW => ?_) (fun σ H1 hW => ?_)⟩
  · obtain ⟨_, _, _, o1, _⟩ := hW
    exact SqT.of (o1.tup _ _ ea)
  · obtain ⟨x3, out, rfl, o1, hp1, po1⟩ := hW
    have hj : j < ns.length := by rw [← lx]; exact (List.getElem?_eq_some_iff.mp hx).1
    obtain ⟨n1, gn⟩ : ∃ nd, ns[j]? = some nd := ⟨ns[j], List.getElem?_eq_getElem hj⟩
    have tn : IsT H1 n1.toT x' := ((paired_get pa).2 j _ _ (by rw [Sn.toTs_map, List.getElem?_map, gn]; rfl) hx).oth o1
    have mem := List.mem_of_getElem? gn
    have hhn := Sn.hts_mem mem
    have hcn := Sn.kids_len mem
    have lall := Sn.len_all ns
    have lout : out.length ≤ 1000 := by
      have h1 := (paired_get po1).1
      rw [List.length_map, pts_len, List.length_take] at h1
      omega
    have es : Sn.pts (.text k x) (ns.take (j + 1)) = Sn.pts (.text k x) (ns.take j) ++ [Sn.pt1 (.text k x) n1] := by
      rw [take_snoc gn, pts_app]
      rfl
    obtain ⟨b, y, ys, rfl, eb, ey⟩ := sn_num tn
    refine ⟨_, rfl, b, _, _, _, rfl, rfl, SqT.of eb, ey, _, rfl, rfl, _, rfl, ?_⟩
    have fin : ∀ (H9 : Hp) (z : V), Oth [] H1 H9 → IsT H9 (Sn.pt1 (.text k x) n1).toT z →
        ∃ (x3 : Option V) (out' : List V), ([some (.ref a), some (.int (k : Int)), some (.str x), some (.ref p), some (.ref b)] : L2.St) = [some (.ref a), some (.int (k : Int)), some (.str x), some (.ref p), x3] ∧ Oth [p] H (upd H9 p (.lst (out ++ [z]))) ∧ (upd H9 p (.lst (out ++ [z]))) p = some (.lst out') ∧ Paired (IsT (upd H9 p (.lst (out ++ [z])))) ((Sn.pts (.text k x) (ns.take (j + 1))).map Sn.toT) out' := fun H9 z o9 tz => by
      have hp9 := o9.keep p _ (by simp) hp1
      have op : Oth [p] H9 (upd H9 p (.lst (out ++ [z]))) := Oth.put (by simp) hp9
      refine ⟨_, out ++ [z], rfl, o1.trans ((o9.mono (by simp)).trans op), upd_same, ?_⟩
      rw [es, List.map_append]
      exact paired_app (paired_oth (paired_oth po1 o9) op) (.cons (tz.oth op) .nil)
    by_cases hk : n1.num = k
    · refine iteTb (by simp [hk]) ?_
      have e1 : Sn.pt1 (.text k x) n1 = .text k x := pt1_hit hk
      refine ⟨_, rfl, .inl ⟨rfl, _, SqL.of hp1⟩, _, rfl, _, rfl, sz, fun t1 ht1 => ?_⟩
      have on := Oth.new (S := []) (o := .tup [.str "text", .int (k : Int), .str x]) ht1
      exact ⟨p, out, _, rfl, rfl, on.keep p _ (by simp) hp1, Nat.lt_of_le_of_lt lout (by decide), fin _ _ on (by rw [e1]; exact .mk3 upd_same (.str _) (.int _) (.str _))⟩
    · refine iteFb (by simp; omega) ?_
      cases n1 with
      | text q' s' =>
        obtain ⟨b', _, v1, v2, e', eb', p0, p1, p2⟩ := IsT.inv3 tn
        obtain rfl := p0.of_str
        cases e'
        have e1 : Sn.pt1 (.text k x) (.text q' s') = .text q' s' := if_neg hk
        exact ⟨_, rfl, b, _, _, _, rfl, rfl, SqT.of eb', at0, rfl, _, rfl, iteF ⟨_, rfl, .inl ⟨rfl, _, SqL.of hp1⟩, _, rfl, p, out, _, rfl, rfl, hp1, Nat.lt_of_le_of_lt lout (by decide), fin _ _ Oth.refl (by rw [e1]; exact tn)⟩⟩
      | input q' s' =>
        obtain ⟨b', _, v1, v2, v3, e', eb', p0, p1, p2, p3⟩ := IsT.inv4 tn
        obtain rfl := p0.of_str
        cases e'
        have e1 : Sn.pt1 (.text k x) (.input q' s') = .input q' s' := if_neg hk
        exact ⟨_, rfl, b, _, _, _, rfl, rfl, SqT.of eb', at0, rfl, _, rfl, iteF ⟨_, rfl, .inl ⟨rfl, _, SqL.of hp1⟩, _, rfl, p, out, _, rfl, rfl, hp1, Nat.lt_of_le_of_lt lout (by decide), fin _ _ Oth.refl (by rw [e1]; exact tn)⟩⟩
      | box q' t' inner =>
        obtain ⟨b', _, v1, v2, v3, e', eb', p0, p1, p2, p3⟩ := IsT.inv4 tn
        obtain rfl := p0.of_str
        cases e'
        simp only [Sn.ht] at hhn
        have hcn' : (Sn.all inner).length ≤ (Sn.all ns).length := hcn
        have e1 : Sn.pt1 (.text k x) (.box q' t' inner) = .box q' t' (Sn.pts (.text k x) inner) := if_neg hk
        refine ⟨_, rfl, b, _, _, _, rfl, rfl, SqT.of eb', at0, rfl, _, rfl, iteT ?_⟩
        refine ⟨_, rfl, .inl ⟨rfl, _, SqL.of hp1⟩, _, rfl, 3, rfl, sl_take (n := 3) eb' fun c H2 o2 e2 => ?_⟩
        refine ⟨_, rfl, b, _, _, _, rfl, rfl, SqT.of (o2.tup _ _ eb'), at3, _, rfl, _, rfl, inner, _, k, x, rfl, p3.oth o2, by omega, by omega, fun r H3 tr o3 => ⟨sz, fun u hu => ?_⟩⟩
        have ou := Oth.new (S := []) (o := .tup [r]) hu
        refine cat_t (ou.tup _ _ (o3.tup _ _ e2)) upd_same (by simp) fun d H4 o4 e4 => ?_
        have oa := o2.trans (o3.trans (ou.trans o4))
        exact ⟨p, out, _, rfl, rfl, oa.keep p _ (by simp) hp1, Nat.lt_of_le_of_lt lout (by decide), fin _ _ oa (by rw [e1]; exact box_up (c := b) (u := b) oa eb' p1 p2 ((tr.oth ou).oth o4) e4)⟩
  · obtain ⟨x3, out, rfl, o1, hp1, po1⟩ := hW
    rw [lx, List.take_length] at po1
    refine ⟨_, rfl, .inl ⟨p, out, rfl, SqL.of hp1, fun a' ha' => ?_⟩⟩
    have on := Oth.new (S := []) (o := .tup out) ha'
    exact q _ _ (.mk upd_same (by rw [Sn.toTs_map]; exact paired_oth po1 on)) (Oth.drop (o1.trans (on.mono (by simp))) hp)
end
abbrev sLBe : Stmt := topS 22
abbrev sLIn : Stmt := topS 18
theorem scLBe : FnScope ["rows", "node", "behind", "numbers", "at", "other"] ["rows", "node", "behind"] (defScope sLBe) := ⟨rfl, rfl, rfl, by decide +kernel, rfl, by decide +kernel, by decide +kernel⟩
theorem scLIn : FnScope ["nodes", "parent", "change", "made", "node"] ["nodes", "parent", "change"] (defScope sLIn) := ⟨rfl, rfl, rfl, by decide +kernel, rfl, by decide +kernel, by decide +kernel⟩
section
variable {P : Program} {w : World} {K : PySem.W.Frag} {mg : Str → Option Value} {base : Heap}
theorem ok_be {f : Addr} {fd : FuncData} {k : Nat} (F : Fun K "_law_before" "_law_before" sLBe f fd) (m_len : mg "len" = none) (m_tuple : mg "tuple" = none) :
    FnOk P w K mg base CX0 (k + 1) f fd ["rows", "node", "behind"] spBe := by
  refine F.ok scLBe (fun vs H Q E h => ?_) (fun cdv A outer s H vs Q E' hr h => ?_)
  · obtain ⟨ks, us, a, m, v, b, rfl, _⟩ := h
    rfl
  obtain ⟨ks, us, a, m, v, b, rfl, ha, pu, tv, ⟨hks, hb⟩, q⟩ := h
  have nd := scLBe.nd
  refine ⟨_, (pss_cons (ps_setLc (i := 3) (own := [("other", 5)]) (g := gName 5) (tt := tYes) rfl nd rfl rfl (sw_true rfl rfl rfl (by decide +kernel)) (pi_list (pv 0)) (blkOk_by (N := ["rows", "node", "behind", "numbers", "at", "other"]) (sc := defScope sLBe) (by decide +kernel)) (fun _ _ _ _ _ => (pg_name (i := 5) nd rfl (.inl rfl))) (fun _ _ _ _ _ => pts_nil) (fun _ _ _ _ _ => (pe_ix (r := rIxT K) ix_tup (pv 5) pe_int (fun _ _ => rfl))))
  (pss_cons (ps_set (i := 4) nd rfl (.inl rfl) (pe_callB call_len_seq (by rfl) m_len PySem.boot_len (pa_cons (pv 0) pa_nil)))
  (pss_cut (ps_if (pt_cmpR op_notN (pv 2) pe_non (nomark _))
  (pss_one (ps_set (i := 4) nd rfl (.inl rfl) (pe_bm PySem.F.plainAttrs_list PySem.F.slot_list_index PySem.F.type_list_index mt_index (pv 3) (pa_cons (pv 2) pa_nil))))
  pss_nil)
  (pss_one (ps_ret (pe_tupleOf (by rfl) m_tuple (pe_op op_cat (pe_op op_cat (pe_slice sl_list (pv 0) po_none (po_some (pv 4))) (pe_lst (pa_cons (pv 1) pa_nil))) (pe_slice sl_list (pv 0) (po_some (pv 4)) po_none)))))))), ?_⟩
  have lus : us.length = ks.length := by rw [(paired_get pu).1, List.length_map]
  refine ⟨_, rfl, a, rfl, ⟨us, SqL.of ha⟩, fun D hD => lc_list (xs := us)
    (fun i H1 => H1 D = some (.lst ((intL (nums ks)).take i)) ∧ Oth [D] H H1)
    ⟨upd_same, Oth.new hD⟩ (fun i H1 _ hW => ?_) (fun i x H1 hx hW => ?_) (fun H1 hW => ?_)⟩
  · exact SqL.of (hW.2.keep a _ (by simp [ne_of_none ha hD]) ha)
  · obtain ⟨h1, o1⟩ := hW
    have hi : i < ks.length := by rw [← lus]; exact (List.getElem?_eq_some_iff.mp hx).1
    obtain ⟨n1, gn⟩ : ∃ nd, ks[i]? = some nd := ⟨ks[i], List.getElem?_eq_getElem hi⟩
    have tn : IsT H1 n1.toT x := ((paired_get pu).2 i _ _ (by rw [List.getElem?_map, gn]; rfl) hx).oth o1
    obtain ⟨c, y, ys, rfl, ec, ey⟩ := sn_num tn
    refine ⟨rfl, _, rfl, c, _, _, _, rfl, rfl, SqT.of ec, ey, (intL (nums ks)).take i, h1, small1000 (by rw [List.length_take]; omega), ?_, o1.trans (Oth.put (by simp) h1)⟩
    rw [upd_same, take_snoc (l := intL (nums ks)) (x := .int (n1.num : Int)) (by unfold intL nums; rw [List.getElem?_map, List.getElem?_map, gn]; rfl)]
  obtain ⟨hD1, o1⟩ := hW
  have o1' := Oth.drop o1 hD
  rw [List.take_of_length_le (by rw [intL_len]; unfold nums; rw [List.length_map]; omega)] at hD1
  have ha1 := o1'.keep a _ (by simp) ha
  refine ⟨_, rfl, a, _, rfl, .inl (SqL.of ha1), ?_⟩
  -- where
  have fin : ∀ i : Nat, insS m b ks = ks.take i ++ m :: ks.drop i → (∀ (r : Addr) (H' : Hp), Oth [] H1 H' → H' r = some (.tup (us.take i ++ v :: us.drop i)) → Q (.ref r) H') := fun i e r H' o e2 => by
    refine q _ H' (.mk e2 ?_) (o1'.trans o)
    rw [Sn.toTs_map, e, List.map_append, List.map_cons, List.map_take, List.map_drop]
    have pu' := paired_oth pu (o1'.trans o)
    exact paired_app (paired_take pu' i) (.cons (tv.oth (o1'.trans o)) (pdrop pu' i))
  refine ⟨fun σ H2 => ∃ i : Nat, i ≤ us.length ∧ insS m b ks = ks.take i ++ m :: ks.drop i ∧ σ = [some (.ref a), some v, some (k0V b), some (.ref D), some (.int ((i : Nat) : Int)), none] ∧ H2 = H1, ?_, fun σ H2 hm => ?_⟩
  · cases b with
    | none => exact ⟨_, rfl, rfl, _, rfl, iteF ⟨us.length, Nat.le_refl _, by rw [lus, List.take_length, List.drop_length]; rfl, rfl, rfl⟩⟩
    | some y =>
      have hy := hb y rfl
      refine ⟨_, rfl, rfl, _, rfl, iteT ?_⟩
      refine ⟨_, rfl, .inl ⟨rfl, _, SqL.of hD1⟩, _, rfl, D, _, _, (nums ks).idxOf y, .int (y : Int), rfl, rfl, SqL.of hD1, rfl, flat_intL _, by unfold intL; rw [List.getElem?_map, idx_at hy]; rfl, by simp [eqV, k0V], fun j z hj ez => ?_, (nums ks).idxOf y, ?_, rfl, rfl, rfl⟩
      · obtain ⟨x, gx, rfl⟩ := intL_get ez
        have : x ≠ y := fun e => idx_first (nums ks) y j hj (by rw [gx, e])
        have : ((x : Nat) : Int) ≠ (y : Int) := by omega
        simp [eqV, k0V, this]
      · have := List.idxOf_lt_length_of_mem hy
        unfold nums at this
        rw [List.length_map] at this
        rw [lus]; exact Nat.le_of_lt this
  · obtain ⟨i, hi, e, rfl, rfl⟩ := hm
    refine ⟨_, rfl, _, rfl, _, rfl, sl_takeL ha1 fun c H2 hc2 o2 e2 => ?_⟩
    refine ⟨_, rfl, sz, fun l hl => ?_⟩
    have ol := Oth.new (S := []) (o := .lst [v]) hl
    refine ⟨c, l, _, _, rfl, rfl, ol.keep c _ (by simp) e2, upd_same, Nat.le_trans (by rw [List.length_take]; simp; omega : _ ≤ 2001) (by decide), fun c2 hc3 => ?_⟩
    have oc := Oth.new (S := []) (o := .lst (us.take i ++ [v])) hc3
    have oa := o2.trans (ol.trans oc)
    refine ⟨_, rfl, _, rfl, _, rfl, ?_⟩
    dsimp only [tNoPart]
    refine sl_dropL (oa.keep a _ (by simp) ha1) hi fun d H3 hd3 o3 e3 => ?_
    refine ⟨c2, d, _, _, rfl, rfl, o3.keep c2 _ (by simp) upd_same, e3, Nat.le_trans (by rw [List.length_append, List.length_take, List.length_drop]; simp; omega : _ ≤ 4001) (by decide), fun c4 hc4 => ?_⟩
    refine .inl ⟨c4, _, rfl, SqL.of upd_same, fun c5 hc5 => ?_⟩
    have o5 := Oth.new (S := []) (o := .lst (us.take i ++ [v] ++ us.drop i)) hc4
    have o6 := Oth.new (S := []) (o := .tup (us.take i ++ [v] ++ us.drop i)) hc5
    refine fin i e c5 _ (oa.trans (o3.trans (o5.trans o6))) ?_
    rw [upd_same, List.append_assoc]
    rfl
theorem ok_in {f : Addr} {fd : FuncData} {k kc n : Nat} (hkc : kc ≤ k) (F : Fun K "_law_in" "_law_in" sLIn f fd)
    (GLin : FnOk P w K mg base CX0 k f fd ["nodes", "parent", "change"] (spIn P w K mg base kc n)) (bLin : Binds K fd ["nodes", "parent", "change"] []) (kLin : PySem.W.keepIn K (.ref f) = true) (mLin : mg "_law_in" = some (.ref f)) (m_tuple : mg "tuple" = none) (m_list : mg "list" = none) :
    FnOk P w K mg base CX0 (k + 1) f fd ["nodes", "parent", "change"] (spIn P w K mg base kc (n + 1)) := by
  refine F.ok scLIn (fun vs H Q E h => ?_) (fun cdv A outer s H vs Q E' hr h => ?_)
  · obtain ⟨ns, p, v, g, E, C, f, rfl, _⟩ := h
    rfl
  obtain ⟨ns, p, v, g, E, C, fn, rfl, tv, hh, hc, ch, c0, c1, q⟩ := h
  have nd := scLIn.nd
  refine ⟨_, (pss_cons (ps_if (pt_cmpR op_isN (pv 1) pe_non (nomark _))
  (pss_one (ps_ret (pe_calF (hr.mono (by omega)) (i := 2) rfl (.inl rfl) (pa_cons (pe_callTy call_list_of (by rfl) m_list bo_list (pa_cons (pv 0) pa_nil)) pa_nil))))
  pss_nil)
  (pss_cons (ps_set (i := 3) nd rfl (.inl rfl) (pe_lst pa_nil))
  (pss_cons (ps_for PassesOwn.never rfl (pi_tup (pv 0)) (pg_name (i := 4) nd rfl (.inl rfl))
  (pss_one (ps_if (PW.pt (pw_and (pt_cmpR op_eq (pe_ix ix_tup (pv 4) pe_int (fun _ _ => rfl)) pe_str (nomark _)) (pw_and1 (pt_cmpR op_eq (pe_ix ix_tup (pv 4) pe_int (fun _ _ => rfl)) (pv 1) (nomark _)))))
  (pss_one (ps_expr (pe_bm PySem.F.plainAttrs_list PySem.F.slot_list_append PySem.F.type_list_append mt_append (pv 3) (pa_cons (pe_op op_catA (pe_slice sl_tupA (pv 4) po_none (po_some pe_int)) (pe_tup (pa_cons (pe_calF (hr.mono (by omega)) (i := 2) rfl (.inl rfl) (pa_cons (pe_callTy call_list_of (by rfl) m_list bo_list (pa_cons (pe_ix ix_tup (pv 4) pe_int (fun _ _ => rfl)) pa_nil)) pa_nil)) pa_nil))) pa_nil))))
  (pss_one (ps_if (pt_cmpR op_eq (pe_ix ix_tup (pv 4) pe_int (fun _ _ => rfl)) pe_str (nomark _))
  (pss_one (ps_expr (pe_bm PySem.F.plainAttrs_list PySem.F.slot_list_append PySem.F.type_list_append mt_append (pv 3) (pa_cons (pe_op op_catA (pe_slice sl_tupA (pv 4) po_none (po_some pe_int)) (pe_tup (pa_cons (pe_call GLin hr rfl mLin kLin bLin .nil pass0 (pa_cons (pe_ix ix_tup (pv 4) pe_int (fun _ _ => rfl)) (pa_cons (pv 1) (pa_cons (pv 2) pa_nil)))) pa_nil))) pa_nil))))
  (pss_one (ps_expr (pe_bm PySem.F.plainAttrs_list PySem.F.slot_list_append PySem.F.type_list_append mt_append (pv 3) (pa_cons (pv 4) pa_nil)))))))))
  (pss_one (ps_ret (pe_tupleOf (by rfl) m_tuple (pv 3))))))), ?_⟩
  have call : ∀ {σ : L2.St} {H1 : Hp} {t : TA} (ks : List Sn) (us : List V) (Q1 : VK), σ[2]? = some (some (.ref g)) → ChAt P w K mg base kc g E C fn H1 → C ks → Paired (IsT H1) (ks.map Sn.toT) us → (∀ Q2 : List V → Hp → Prop, (∀ l, H1 l = none → Q2 [.ref l] (upd H1 l (.lst us))) → t σ H1 Q2) →
      (∀ r H', IsT H' (.tup (Sn.toTs (fn ks))) r → Oth [] H1 H' → ChAt P w K mg base kc g E C fn H' → Q1 r H') → tCalF P w K mg base kc 2 t σ H1 Q1 := fun {σ H1 t} ks us Q1 h2 hch hC hp ht hq => by
    obtain ⟨cc, qn, sp, tm, vm, cal, imp, lent, hcc, tvm⟩ := hch
    refine ⟨g, E, cc, qn, sp, h2, cal, lent, ht _ fun l hl => ?_⟩
    have ol := Oth.new (S := []) (o := .lst us) hl
    have le2 : Lent (upd H1 l (.lst us)) E := lent.oth ol (fun b h => nomatch h)
    have hE : E l = none := by
      cases e : E l with
      | none => rfl
      | some o => have := lent l o e; rw [hl] at this; cases this
    refine ⟨le2, ol.keep cc _ (by simp) hcc, imp _ _ _ _ ((tvm.oth ol).tups (lent_tups le2)) ⟨ks, us, l, rfl, ?_, ptups (lent_tups le2) (paired_oth hp ol), hC, fun r H' tr o hn => ?_⟩⟩
    · rw [wout_not hE]; exact upd_same
    · have oo := ol.trans (lent_oth le2 o)
      exact hq r _ (tr.tups (back_tups hn)) oo ⟨cc, qn, sp, tm, vm, cal, imp, lent.oth oo (fun b h => nomatch h), oo.keep cc _ (by simp) hcc, tvm.oth oo⟩
  obtain ⟨a, xs, rfl, ea, pa⟩ := tv.inv
  have lx : xs.length = ns.length := by rw [(paired_get pa).1, Sn.toTs_map, List.length_map]
  have chn : ∀ {H' : Hp} {S : List Addr}, Oth S H H' → (∀ b ∈ S, H b = none) → ChAt P w K mg base kc g E C fn H' := fun o n => ch.oth o fun b hb _ => .inl (n b hb)
  cases p with
  | none =>
    refine ⟨_, rfl, rfl, _, rfl, iteT ?_⟩
    exact call (σ := [some (.ref a), some .non, some (.ref g), none, none]) ns xs Q rfl ch (c0 rfl) (by rw [← Sn.toTs_map]; exact pa) (fun Q2 h => ⟨_, rfl, a, xs, rfl, .inr (SqT.of ea), fun l hl => h l hl⟩) fun r H' tr o _ => q r H' tr o
  | some pn =>
    refine ⟨_, rfl, rfl, _, rfl, iteF ?_⟩
    refine ⟨sz, fun p hp => ?_⟩
    have o0 := Oth.new (S := []) (o := .lst []) hp
    have nS : ∀ b ∈ [p], H b = none := fun b hb => by rw [List.mem_singleton.mp hb]; exact hp
    refine ⟨_, rfl, a, rfl, ⟨xs, SqT.of (o0.tup _ _ ea)⟩, for_tup (xs := xs)
      (fun j σ H1 => ∃ (x3 : Option V) (out : List V), σ = [some (.ref a), some (.int (pn : Int)), some (.ref g), some (.ref p), x3] ∧ Oth [p] H H1 ∧ H1 p = some (.lst out) ∧ Paired (IsT H1) ((Sn.inS pn fn (ns.take j)).map Sn.toT) out)
      ⟨none, [], rfl, o0.mono (by simp), upd_same, .nil⟩ (fun j σ H1 _ hW => ?_) (fun j x σ H1 hx hW => ?_) (fun σ H1 hW => ?_)⟩
    · obtain ⟨_, _, _, o1, _⟩ := hW
      exact SqT.of (o1.tup _ _ ea)
    · obtain ⟨x3, out, rfl, o1, hp1, po1⟩ := hW
      have hj : j < ns.length := by rw [← lx]; exact (List.getElem?_eq_some_iff.mp hx).1
      obtain ⟨n1, gn⟩ : ∃ nd, ns[j]? = some nd := ⟨ns[j], List.getElem?_eq_getElem hj⟩
      have tn : IsT H1 n1.toT x := ((paired_get pa).2 j _ _ (by rw [Sn.toTs_map, List.getElem?_map, gn]; rfl) hx).oth o1
      have mem := List.mem_of_getElem? gn
      have hhn := Sn.hts_mem mem
      have hcn := Sn.kids_len mem
      have lall := Sn.len_all ns
      have lout : out.length ≤ 1000 := by
        have h1 := (paired_get po1).1
        rw [List.length_map, inS_len, List.length_take] at h1
        omega
      have es : Sn.inS pn fn (ns.take (j + 1)) = Sn.inS pn fn (ns.take j) ++ [n1.in1 pn fn] := by
        rw [take_snoc gn, inS_app]
        rfl
      obtain ⟨b, y, ys, rfl, eb, ey⟩ := sn_num tn
      have fin : ∀ (H9 : Hp) (z : V), Oth [] H1 H9 → IsT H9 (n1.in1 pn fn).toT z →
          ∃ (x3 : Option V) (out' : List V), ([some (.ref a), some (.int (pn : Int)), some (.ref g), some (.ref p), some (.ref b)] : L2.St) = [some (.ref a), some (.int (pn : Int)), some (.ref g), some (.ref p), x3] ∧ Oth [p] H (upd H9 p (.lst (out ++ [z]))) ∧ (upd H9 p (.lst (out ++ [z]))) p = some (.lst out') ∧ Paired (IsT (upd H9 p (.lst (out ++ [z])))) ((Sn.inS pn fn (ns.take (j + 1))).map Sn.toT) out' := fun H9 z o9 tz => by
        have hp9 := o9.keep p _ (by simp) hp1
        have op : Oth [p] H9 (upd H9 p (.lst (out ++ [z]))) := Oth.put (by simp) hp9
        refine ⟨_, out ++ [z], rfl, o1.trans ((o9.mono (by simp)).trans op), upd_same, ?_⟩
        rw [es, List.map_append]
        exact paired_app (paired_oth (paired_oth po1 o9) op) (.cons (tz.oth op) .nil)
      cases n1 with
      | text q' s' =>
        obtain ⟨b', _, v1, v2, e', eb', p0, p1, p2⟩ := IsT.inv3 tn
        obtain rfl := p0.of_str
        cases e'
        exact ⟨_, rfl, b, _, _, _, rfl, rfl, SqT.of eb', at0, rfl, _, rfl, iteF ⟨_, rfl, b, _, _, _, rfl, rfl, SqT.of eb', at0, rfl, _, rfl, iteF ⟨_, rfl, .inl ⟨rfl, _, SqL.of hp1⟩, _, rfl, p, out, _, rfl, rfl, hp1, Nat.lt_of_le_of_lt lout (by decide), fin _ _ Oth.refl tn⟩⟩⟩
      | input q' s' =>
        obtain ⟨b', _, v1, v2, v3, e', eb', p0, p1, p2, p3⟩ := IsT.inv4 tn
        obtain rfl := p0.of_str
        cases e'
        exact ⟨_, rfl, b, _, _, _, rfl, rfl, SqT.of eb', at0, rfl, _, rfl, iteF ⟨_, rfl, b, _, _, _, rfl, rfl, SqT.of eb', at0, rfl, _, rfl, iteF ⟨_, rfl, .inl ⟨rfl, _, SqL.of hp1⟩, _, rfl, p, out, _, rfl, rfl, hp1, Nat.lt_of_le_of_lt lout (by decide), fin _ _ Oth.refl tn⟩⟩⟩
      | box q' t' inner =>
        obtain ⟨b', _, v1, v2, v3, e', eb', p0, p1, p2, p3⟩ := IsT.inv4 tn
        obtain rfl := p0.of_str
        cases e'
        simp only [Sn.ht] at hhn
        have hcn' : (Sn.all inner).length ≤ (Sn.all ns).length := hcn
        obtain rfl := p1.of_int
        have ch1 := chn o1 nS
        obtain ⟨ai, xi, rfl, ei, pi⟩ := p3.inv
        refine ⟨_, rfl, b, _, _, _, rfl, rfl, SqT.of eb', at0, rfl, _, rfl, iteT ?_⟩
        refine ⟨_, rfl, b, _, _, _, rfl, rfl, SqT.of eb', at1, _, rfl, rfl, _, rfl, ?_⟩
        by_cases hk : q' = pn
        · have e1 : (Sn.box q' t' inner).in1 pn fn = .box q' t' (fn inner) := if_pos hk
          refine iteTb (by simp [hk]) ?_
          refine ⟨_, rfl, .inl ⟨rfl, _, SqL.of hp1⟩, _, rfl, 3, rfl, sl_take (n := 3) eb' fun c H2 o2 e2 => ?_⟩
          refine call (σ := [some (.ref a), some (.int (pn : Int)), some (.ref g), some (.ref p), some (.ref b)]) inner xi _ rfl (ch1.oth o2 (fun _ h => nomatch h)) (c1 _ (Sn.mem_all mem) rfl (by rw [← hk]; rfl)) (by rw [← Sn.toTs_map]; exact paired_oth pi o2) (fun Q2 h => ⟨_, rfl, b, _, _, _, rfl, rfl, SqT.of (o2.tup _ _ eb'), at3, ai, xi, rfl, .inr (SqT.of (o2.tup _ _ ei)), fun l hl => h l hl⟩) fun r H3 tr o3 _ => ⟨sz, fun u hu => ?_⟩
          have ou := Oth.new (S := []) (o := .tup [r]) hu
          refine cat_t (ou.tup _ _ (o3.tup _ _ e2)) upd_same (by simp) fun d H4 o4 e4 => ?_
          have oa := o2.trans (o3.trans (ou.trans o4))
          exact ⟨p, out, _, rfl, rfl, oa.keep p _ (by simp) hp1, Nat.lt_of_le_of_lt lout (by decide), fin _ _ oa (by rw [e1]; exact box_up (c := b) (u := b) oa eb' (.int _) p2 ((tr.oth ou).oth o4) e4)⟩
        · have e1 : (Sn.box q' t' inner).in1 pn fn = .box q' t' (Sn.inS pn fn inner) := if_neg hk
          refine iteFb (by simp; omega) ?_
          refine ⟨_, rfl, b, _, _, _, rfl, rfl, SqT.of eb', at0, rfl, _, rfl, iteT ?_⟩
          refine ⟨_, rfl, .inl ⟨rfl, _, SqL.of hp1⟩, _, rfl, 3, rfl, sl_take (n := 3) eb' fun c H2 o2 e2 => ?_⟩
          refine ⟨_, rfl, b, _, _, _, rfl, rfl, SqT.of (o2.tup _ _ eb'), at3, _, rfl, _, rfl, inner, some pn, _, g, E, C, fn, rfl, .mk (o2.tup _ _ ei) (paired_oth pi o2), by omega, by omega, ch1.oth o2 (fun _ h => nomatch h), (fun z => nomatch z), fun z hz => c1 z (Sn.all_all (Sn.mem_all mem) hz), fun r H3 tr o3 => ⟨sz, fun u hu => ?_⟩⟩
          have ou := Oth.new (S := []) (o := .tup [r]) hu
          refine cat_t (ou.tup _ _ (o3.tup _ _ e2)) upd_same (by simp) fun d H4 o4 e4 => ?_
          have oa := o2.trans (o3.trans (ou.trans o4))
          exact ⟨p, out, _, rfl, rfl, oa.keep p _ (by simp) hp1, Nat.lt_of_le_of_lt lout (by decide), fin _ _ oa (by rw [e1]; exact box_up (c := b) (u := b) oa eb' (.int _) p2 ((tr.oth ou).oth o4) e4)⟩
    · obtain ⟨x3, out, rfl, o1, hp1, po1⟩ := hW
      rw [lx, List.take_length] at po1
      refine ⟨_, rfl, .inl ⟨p, out, rfl, SqL.of hp1, fun a' ha' => ?_⟩⟩
      have on := Oth.new (S := []) (o := .tup out) ha'
      exact q _ _ (.mk upd_same (by rw [Sn.toTs_map]; exact paired_oth po1 on)) (Oth.drop (o1.trans (on.mono (by simp))) hp)
end
abbrev sLaw : Stmt := topS 23
theorem scLaw : FnScope ["script", "box", "tree", "start", "operations", "turn", "nodes", "kind", "families", "family", "behind", "number", "texts", "fields", "node", "rest"] ["script"] (defScope sLaw) := ⟨rfl, rfl, rfl, by decide +kernel, rfl, by decide +kernel, by decide +kernel⟩
def scRows : Scope := { kind := .function, names := [("rows", .local), ("behind", .free), ("node", .free), ("_law_before", .globalImplicit)], isGenerator := false, isCoroutine := false }
theorem nsc51 : NdefX.NScope ["rows", "node", "behind"] ["rows"] ["node", "behind"] scRows := NdefX.nscope_by (by decide +kernel)
theorem nd51 : NdefX.ndefB (defScope sLaw) scRows ["node", "behind"] = true := by decide +kernel
theorem bind51 {q : Str} {body : Expr} {cl : List (Str × Addr)} {pm ctv : Value} {c' : Addr} {pp : Pos} : ∀ us : List Value, us.length = ["rows"].length → bindArgs (PySem.W.kla_fn "<lambda>" q ⟨[], [⟨"rows", none, pp⟩], none, [], [], none, []⟩ body scRows cl pm (.ref c') ctv) ⟨us, []⟩ = pure ((["rows"] : List Str).zip us)
  | [_], _ => rfl
theorem lm_len {ws : List (Option V)} {vs : List V} {H : Hp} {Q : VK} {E : XK} (h : spLm ws vs H Q E) : vs.length = (["rows"] : List Str).length := by
  obtain ⟨_, _, _, _, _, _, _, rfl, _⟩ := h
  rfl
def spLawK51 (T : Addr) (K : PySem.W.Frag) : Sp := fun vs H Q _ => ∃ (a : Addr) (ns : List Int), vs = [.ref a] ∧ SqL K H a (ns.map V.int) ∧ ns.length ≤ 63 ∧ H T = some (.tbl #[]) ∧ ∀ H', Q (.bl true) H'
open LamX NdefX in
theorem ok_law {P : Program} {w : World} {K : PySem.W.Frag} {mg : Str → Option Value} {base : Heap} {T c f fB f2 fR fAl fFa fWo fVa fTx fBe fIn fA fS : Addr} {fd dB d2 dR dAl dFa dWo dVa dTx dBe dIn dA dS : FuncData} {k kb : Nat} (F : CodeAt K "law" sLaw f fd c) (TB : TabB base mg c T)
    (GB : FnOk P w K mg base CX0 k fB dB ["script", "first", "last"] (spBoxT K)) (bB : Binds K dB ["script", "first", "last"] []) (kB : PySem.W.keepIn K (.ref fB) = true) (mB : mg "_law_box" = some (.ref fB))
    (GL2t : FnOk P w K mg base CX0 k f2 d2 ["box"] spTwoB) (bL2t : Binds K d2 ["box"] []) (kL2t : PySem.W.keepIn K (.ref f2) = true) (mL2t : mg "_law_two_trees" = some (.ref f2))
    (GR : FnOk P w K mg base CX0 k fR dR ["box", "many"] spDraw) (bR : Binds K dR ["box", "many"] []) (kR : PySem.W.keepIn K (.ref fR) = true) (mR : mg "_law_draw" = some (.ref fR))
    (GLal : FnOk P w K mg base CX0 k fAl dAl ["nodes"] (spAllT 23)) (bLal : Binds K dAl ["nodes"] []) (kLal : PySem.W.keepIn K (.ref fAl) = true) (mLal : mg "_law_all" = some (.ref fAl))
    (GLfa : FnOk P w K mg base CX0 k fFa dFa ["nodes"] (spFamsT 23)) (bLfa : Binds K dFa ["nodes"] []) (kLfa : PySem.W.keepIn K (.ref fFa) = true) (mLfa : mg "_law_families" = some (.ref fFa))
    (GLwo : FnOk P w K mg base CX0 k fWo dWo ["nodes", "number"] (spWo 23)) (bLwo : Binds K dWo ["nodes", "number"] []) (kLwo : PySem.W.keepIn K (.ref fWo) = true) (mLwo : mg "_law_without" = some (.ref fWo))
    (GLva : FnOk P w K mg base CX0 k fVa dVa ["nodes", "number", "value"] (spVa 23)) (bLva : Binds K dVa ["nodes", "number", "value"] []) (kLva : PySem.W.keepIn K (.ref fVa) = true) (mLva : mg "_law_value_at" = some (.ref fVa))
    (GLtx : FnOk P w K mg base CX0 k fTx dTx ["nodes", "number", "characters"] (spTx 23)) (bLtx : Binds K dTx ["nodes", "number", "characters"] []) (kLtx : PySem.W.keepIn K (.ref fTx) = true) (mLtx : mg "_law_text" = some (.ref fTx))
    (GLbe : FnOk P w K mg base CX0 kb fBe dBe ["rows", "node", "behind"] spBe) (bLbe : Binds K dBe ["rows", "node", "behind"] []) (kLbe : PySem.W.keepIn K (.ref fBe) = true) (mLbe : mg "_law_before" = some (.ref fBe))
    (GLin : FnOk P w K mg base CX0 k fIn dIn ["nodes", "parent", "change"] (spIn P w K mg base (kb + 1) 23)) (bLin : Binds K dIn ["nodes", "parent", "change"] []) (kLin : PySem.W.keepIn K (.ref fIn) = true) (mLin : mg "_law_in" = some (.ref fIn))
    (GGap : FnOk P w K mg base CX0 k fA dA ["tree", "operations"] (spApply 23)) (bGap : Binds K dA ["tree", "operations"] []) (kGap : PySem.W.keepIn K (.ref fA) = true) (mGap : mg "apply_patch" = some (.ref fA))
    (GS : FnOk P w K mg base CX0 k fS dS ["actual", "expected"] (spSame 60)) (bS : Binds K dS ["actual", "expected"] []) (kS : PySem.W.keepIn K (.ref fS) = true) (mS : mg "_law_same" = some (.ref fS))
    (m_range : mg "range" = none) (m_len : mg "len" = none) (m_str : mg "str" = none) (m_tuple : mg "tuple" = none) : FnOk P w K mg base CX0 (k + 1) f fd ["script"] (spLawK51 T K) := by
  refine F.ok scLaw (fun vs H Q E h => ?_) (fun A outer s H vs Q E' hr h => ?_)
  · obtain ⟨a, ns, rfl, _⟩ := h
    rfl
  obtain ⟨a, ns, rfl, hS, h63, hT0, q⟩ := h
  have nd := scLaw.nd
  refine ⟨_, (pss_cons (ps_set (i := 1) nd rfl (.inl rfl) (pe_call GB hr rfl mB kB bB .nil pass0 (pa_cons (pv 0) (pa_cons pe_int (pa_cons pe_int pa_nil)))))
  (pss_cons (ps_set (i := 2) nd rfl (.inl rfl) (pe_ix ix_list (pe_call GL2t hr rfl mL2t kL2t bL2t .nil pass0 (pa_cons (pv 1) pa_nil)) pe_int (fun _ _ => rfl)))
  (pss_cons (ps_set (i := 3) nd rfl (.inl rfl) (pv 2))
  (pss_cons (ps_set (i := 4) nd rfl (.inl rfl) (pe_lst pa_nil))
  (pss_cons (ps_for PassesOwn.never rfl (pi_range1 (by rfl) m_range (pa_cons (pe_call GR hr rfl mR kR bR .nil pass0 (pa_cons (pv 1) (pa_cons pe_int pa_nil))) pa_nil)) (pg_name (i := 5) nd rfl (.inl rfl))
  (pss_cons (ps_set (i := 6) nd rfl (.inl rfl) (pe_call GLal hr rfl mLal kLal bLal .nil pass0 (pa_cons (pv 2) pa_nil)))
  (pss_cons (ps_set (i := 7) nd rfl (.inl rfl) (pe_call GR hr rfl mR kR bR .nil pass0 (pa_cons (pv 1) (pa_cons pe_int pa_nil))))
  (pss_cons (ps_set (i := 8) nd rfl (.inl rfl) (pe_call GLfa hr rfl mLfa kLfa bLfa .nil pass0 (pa_cons (pv 2) pa_nil)))
  (pss_cons (ps_set (i := 9) nd rfl (.inl rfl) (pe_ix ix_list (pv 8) (pe_call GR hr rfl mR kR bR .nil pass0 (pa_cons (pv 1) (pa_cons (pe_callB call_len_seq (by rfl) m_len PySem.boot_len (pa_cons (pv 8) pa_nil)) pa_nil))) (fun _ _ => rfl)))
  (pss_cons (ps_set (i := 10) nd rfl (.inr rfl) pe_non)
  (pss_cut (ps_if (PW.pt (pw_and (pt_cmpR op_gt (pe_callB call_len_seq (by rfl) m_len PySem.boot_len (pa_cons (pe_ix ix_list (pv 9) pe_int (fun _ _ => rfl)) pa_nil)) pe_int (nomark _)) (pw_and1 (pt_cmpR op_gt (pe_call GR hr rfl mR kR bR .nil pass0 (pa_cons (pv 1) (pa_cons pe_int pa_nil))) pe_int (nomark _)))))
  (pss_one (ps_set (i := 10) nd rfl (.inr rfl) (pe_ix ix_tup (pe_ix ix_list (pe_ix ix_list (pv 9) pe_int (fun _ _ => rfl)) (pe_call GR hr rfl mR kR bR .nil pass0 (pa_cons (pv 1) (pa_cons (pe_callB call_len_seq (by rfl) m_len PySem.boot_len (pa_cons (pe_ix ix_list (pv 9) pe_int (fun _ _ => rfl)) pa_nil)) pa_nil))) (fun _ _ => rfl)) pe_int (fun _ _ => rfl))))
  pss_nil)
  (pss_one (ps_if (PW.pt (pw_and (pt_cmpR op_eq (pv 7) pe_int (nomark _)) (pw_and1 (pt_cmpR op_gt (pe_callB call_len_seq (by rfl) m_len PySem.boot_len (pa_cons (pv 6) pa_nil)) pe_int (nomark _)))))
  (pss_cons (ps_set (i := 11) nd rfl (.inl rfl) (pe_ix ix_tup (pe_ix ix_list (pv 6) (pe_call GR hr rfl mR kR bR .nil pass0 (pa_cons (pv 1) (pa_cons (pe_callB call_len_seq (by rfl) m_len PySem.boot_len (pa_cons (pv 6) pa_nil)) pa_nil))) (fun _ _ => rfl)) pe_int (fun _ _ => rfl)))
  (pss_cons (ps_expr (pe_bm PySem.F.plainAttrs_list PySem.F.slot_list_append PySem.F.type_list_append mt_append (pv 4) (pa_cons (pe_tup (pa_cons pe_str (pa_cons (pv 11) pa_nil))) pa_nil)))
  (pss_one (ps_set (i := 2) nd rfl (.inl rfl) (pe_call GLwo hr rfl mLwo kLwo bLwo .nil pass0 (pa_cons (pv 2) (pa_cons (pv 11) pa_nil)))))))
  (pss_one (ps_if (pt_cmpR op_eq (pv 7) pe_int (nomark _))
  (pss_cons (ps_setLc (i := 12) (own := [("node", 14)]) (g := gName 14) rfl nd rfl rfl (sw_true rfl rfl rfl (by decide +kernel)) (pi_list (pv 6)) (blkOk_by (N := ["script", "box", "tree", "start", "operations", "turn", "nodes", "kind", "families", "family", "behind", "number", "texts", "fields", "node", "rest"]) (sc := defScope sLaw) (by decide +kernel)) (fun _ _ _ _ _ => (pg_name (i := 14) nd rfl (.inl rfl))) (fun _ _ _ _ _ => pts_one (pt_cmpR op_eq (pe_ix (r := rIxT K) ix_tup (pv 14) pe_int (fun _ _ => rfl)) pe_str (nomark _))) (fun _ _ _ _ _ => (pv 14)))
  (pss_one (ps_if (pt_cmpR op_gt (pe_callB call_len_seq (by rfl) m_len PySem.boot_len (pa_cons (pv 12) pa_nil)) pe_int (nomark _))
  (pss_cons (ps_set (i := 11) nd rfl (.inl rfl) (pe_ix ix_tup (pe_ix ix_list (pv 12) (pe_call GR hr rfl mR kR bR .nil pass0 (pa_cons (pv 1) (pa_cons (pe_callB call_len_seq (by rfl) m_len PySem.boot_len (pa_cons (pv 12) pa_nil)) pa_nil))) (fun _ _ => rfl)) pe_int (fun _ _ => rfl)))
  (pss_cons (ps_expr (pe_bm PySem.F.plainAttrs_list PySem.F.slot_list_append PySem.F.type_list_append mt_append (pv 4) (pa_cons (pe_tup (pa_cons pe_str (pa_cons (pv 11) (pa_cons (pe_op op_add_str pe_str (pe_callTy call_str_int (by rfl) m_str bo_str (pa_cons (pv 5) pa_nil))) pa_nil)))) pa_nil)))
  (pss_one (ps_set (i := 2) nd rfl (.inl rfl) (pe_call GLtx hr rfl mLtx kLtx bLtx .nil pass0 (pa_cons (pv 2) (pa_cons (pv 11) (pa_cons (pe_op op_add_str pe_str (pe_callTy call_str_int (by rfl) m_str bo_str (pa_cons (pv 5) pa_nil))) pa_nil))))))))
  pss_nil)))
  (pss_one (ps_if (pt_cmpR op_eq (pv 7) pe_int (nomark _))
  (pss_cons (ps_setLc (i := 13) (own := [("node", 14)]) (g := gName 14) rfl nd rfl rfl (sw_true rfl rfl rfl (by decide +kernel)) (pi_list (pv 6)) (blkOk_by (N := ["script", "box", "tree", "start", "operations", "turn", "nodes", "kind", "families", "family", "behind", "number", "texts", "fields", "node", "rest"]) (sc := defScope sLaw) (by decide +kernel)) (fun _ _ _ _ _ => (pg_name (i := 14) nd rfl (.inl rfl))) (fun _ _ _ _ _ => pts_one (pt_cmpR op_eq (pe_ix (r := rIxT K) ix_tup (pv 14) pe_int (fun _ _ => rfl)) pe_str (nomark _))) (fun _ _ _ _ _ => (pv 14)))
  (pss_one (ps_if (pt_cmpR op_gt (pe_callB call_len_seq (by rfl) m_len PySem.boot_len (pa_cons (pv 13) pa_nil)) pe_int (nomark _))
  (pss_cons (ps_set (i := 11) nd rfl (.inl rfl) (pe_ix ix_tup (pe_ix ix_list (pv 13) (pe_call GR hr rfl mR kR bR .nil pass0 (pa_cons (pv 1) (pa_cons (pe_callB call_len_seq (by rfl) m_len PySem.boot_len (pa_cons (pv 13) pa_nil)) pa_nil))) (fun _ _ => rfl)) pe_int (fun _ _ => rfl)))
  (pss_cons (ps_expr (pe_bm PySem.F.plainAttrs_list PySem.F.slot_list_append PySem.F.type_list_append mt_append (pv 4) (pa_cons (pe_tup (pa_cons pe_str (pa_cons (pv 11) (pa_cons (pe_op op_add pe_int (pv 5)) pa_nil)))) pa_nil)))
  (pss_one (ps_set (i := 2) nd rfl (.inl rfl) (pe_call GLva hr rfl mLva kLva bLva .nil pass0 (pa_cons (pv 2) (pa_cons (pv 11) (pa_cons (pe_op op_add pe_int (pv 5)) pa_nil))))))))
  pss_nil)))
  (pss_one (ps_if (pt_cmpR op_eq (pv 7) pe_int (nomark _))
  (pss_cons (ps_set (i := 14) nd rfl (.inr rfl) (pe_ix ix_list (pe_lst (pa_cons (pe_tup (pa_cons pe_str (pa_cons (pe_op op_add pe_int (pv 5)) (pa_cons pe_str pa_nil)))) (pa_cons (pe_tup (pa_cons pe_str (pa_cons (pe_op op_add pe_int (pv 5)) (pa_cons pe_str (pa_cons (pe_tup pa_nil) pa_nil))))) (pa_cons (pe_tup (pa_cons pe_str (pa_cons (pe_op op_add pe_int (pv 5)) (pa_cons pe_str (pa_cons (pv 5) pa_nil))))) pa_nil)))) (pe_call GR hr rfl mR kR bR .nil pass0 (pa_cons (pv 1) (pa_cons pe_int pa_nil))) (fun _ _ => rfl)))
  (pss_cons (ps_expr (pe_bm PySem.F.plainAttrs_list PySem.F.slot_list_append PySem.F.type_list_append mt_append (pv 4) (pa_cons (pe_tup (pa_cons pe_str (pa_cons (pv 14) pa_nil))) pa_nil)))
  (pss_cons (ps_expr (pe_bm PySem.F.plainAttrs_list PySem.F.slot_list_append PySem.F.type_list_append mt_append (pv 4) (pa_cons (pe_tup (pa_cons pe_str (pa_cons (pe_ix ix_tup (pv 14) pe_int (fun _ _ => rfl)) (pa_cons (pe_ix ix_list (pv 9) pe_int (fun _ _ => rfl)) (pa_cons (pv 10) pa_nil))))) pa_nil)))
  (pss_one (ps_set (i := 2) nd rfl (.inl rfl) (pe_lend (k := kb) rfl GLin hr rfl mLin kLin bLin (pa_cons (pv 2) (pa_cons (pe_ix ix_list (pv 9) pe_int (fun _ _ => rfl)) (pa_cons (pe_lamV (T := [(T, _)]) TB rfl List.mem_cons_self (fun _ h _ => by rw [List.mem_singleton.mp h]) rfl (ndef_free nd51)) pa_nil))) (NL := ["rows", "node", "behind"]) (pl := ["rows"]) (fr := ["node", "behind"]) (js := [14, 10]) (spl := spLm) nsc51 (fun _ => rfl) nd51 rfl (fun _ _ _ _ us hl => bind51 us hl) (fun _ _ _ _ _ h => lm_len h) (fun f c' cl A outer s H vs ws Q hr _ hs => lam_before GLbe bLbe kLbe mLbe rfl (.inl rfl) (.inr (.inr rfl)) (.inr (.inr rfl)) hr hs)))))))
  (pss_one (ps_if (pt_cmpR op_gt (pe_callB call_len_seq (by rfl) m_len PySem.boot_len (pa_cons (pe_ix ix_list (pv 9) pe_int (fun _ _ => rfl)) pa_nil)) pe_int (nomark _))
  (pss_cons (ps_set (i := 14) nd rfl (.inr rfl) (pe_ix ix_list (pe_ix ix_list (pv 9) pe_int (fun _ _ => rfl)) (pe_call GR hr rfl mR kR bR .nil pass0 (pa_cons (pv 1) (pa_cons (pe_callB call_len_seq (by rfl) m_len PySem.boot_len (pa_cons (pe_ix ix_list (pv 9) pe_int (fun _ _ => rfl)) pa_nil)) pa_nil))) (fun _ _ => rfl)))
  (pss_one (ps_if (pt_cmpR op_ne (pe_ix ix_tup (pv 14) pe_int (fun _ _ => rfl)) (pv 10) (nomark _))
  (pss_cons (ps_expr (pe_bm PySem.F.plainAttrs_list PySem.F.slot_list_append PySem.F.type_list_append mt_append (pv 4) (pa_cons (pe_tup (pa_cons pe_str (pa_cons (pe_ix ix_tup (pv 14) pe_int (fun _ _ => rfl)) (pa_cons (pe_ix ix_list (pv 9) pe_int (fun _ _ => rfl)) (pa_cons (pv 10) pa_nil))))) pa_nil)))
  (pss_cons (ps_set (i := 15) nd rfl (.inl rfl) (pe_call GLwo hr rfl mLwo kLwo bLwo .nil pass0 (pa_cons (pv 2) (pa_cons (pe_ix ix_tup (pv 14) pe_int (fun _ _ => rfl)) pa_nil))))
  (pss_one (ps_set (i := 2) nd rfl (.inl rfl) (pe_lend (k := kb) rfl GLin hr rfl mLin kLin bLin (pa_cons (pv 15) (pa_cons (pe_ix ix_list (pv 9) pe_int (fun _ _ => rfl)) (pa_cons (pe_lamV (T := [(T, _)]) TB rfl List.mem_cons_self (fun _ h _ => by rw [List.mem_singleton.mp h]) rfl (ndef_free nd51)) pa_nil))) (NL := ["rows", "node", "behind"]) (pl := ["rows"]) (fr := ["node", "behind"]) (js := [14, 10]) (spl := spLm) nsc51 (fun _ => rfl) nd51 rfl (fun _ _ _ _ us hl => bind51 us hl) (fun _ _ _ _ _ h => lm_len h) (fun f c' cl A outer s H vs ws Q hr _ hs => lam_before GLbe bLbe kLbe mLbe rfl (.inl rfl) (.inr (.inr rfl)) (.inr (.inr rfl)) hr hs))))))
  pss_nil)))
  pss_nil)))))))))))))))))
  (pss_one (ps_ret (pe_call GS hr rfl mS kS bS .nil pass0 (pa_cons (pe_call GGap hr rfl mGap kGap bGap .nil pass0 (pa_cons (pv 3) (pa_cons (pe_tupleOf (by rfl) m_tuple (pv 4)) pa_nil))) (pa_cons (pv 2) pa_nil)))))))))), ?_⟩
  obtain ⟨qL, hqL⟩ : ∃ qL : Str, qL = (envOfC "law" (defScope sLaw) s.heap.objs.size f (.ref c)).qual ++ "<lambda>" := ⟨_, rfl⟩
  refine ⟨_, rfl, a, ns, 0, 63, rfl, hS, by omega, by omega, fun b d rest H1 hb bx o1 => ?_⟩
  have nTb : T ≠ b := ne_of_none hT0 hb
  refine ⟨_, rfl, b, d, rest, rfl, bx, fun tr v1 v2 Fo B Aa H2 ok etr ntr tB tA fitB fitA htB htA bx2 o2 => ⟨tr, _, _, _, rfl, rfl, SqL.of etr, at0, ?_⟩⟩
  have hT2 : TabS H2 T qL := TabS.nil (o2.keep T _ (by simp [nTb]) (o1.keep T _ (by simp) hT0))
  refine ⟨_, rfl, sz, fun po hpo => ?_⟩
  have op := Oth.new (S := []) (o := .lst []) hpo
  have st0 : St51 (upd H2 po (.lst [])) b d rest po T qL v1 v1 B B [] 0 := ⟨bx2.new hpo, ⟨[], upd_same, .nil⟩, tB.oth op, tB.oth op, tabS_oth hT2 op (fun _ h => nomatch h), (bx2.nb hpo).symm, (bx2.nd hpo).symm, .start ok fitB⟩
  generalize upd H2 po (.lst []) = H3 at st0
  refine ⟨_, rfl, b, d, _, rest, rfl, by decide, st0.bx, fun r0 H4 r00 r01 bx4 o4 => ⟨_, rfl, by omega, by omega, for_range (lo := 0) (n := r0.toNat)
    (fun i σ H5 => ∃ (tree : List Sn) (v : V) (ops : List Op) (x5 x6 x7 x8 x9 x10 x11 x12 x13 x14 x15 : Option V), σ = [some (.ref a), some (.ref b), some v, some v1, some (.ref po), x5, x6, x7, x8, x9, x10, x11, x12, x13, x14, x15] ∧ St51 H5 b d rest po T qL v v1 B tree ops i)
    ⟨B, v1, [], none, none, none, none, none, none, none, none, none, none, none, rfl, st0.draw o4 bx4⟩ (fun i σ H5 hi hW => ?_) (fun σ H5 hW => ?_)⟩⟩
  · obtain ⟨tree, v, ops, x5, x6, x7, x8, x9, x10, x11, x12, x13, x14, x15, rfl, st⟩ := hW
    have hi10 : i ≤ 10 := by omega
    have e00 : (0 : Int) + ((i : Nat) : Int) = ((i : Nat) : Int) := by omega
    rw [e00]
    have hht := st.m.ht
    have hmn := st.m.many
    -- nodes, kind, families
    refine ⟨_, rfl, tree, v, rfl, st.tv, by omega, by omega, fun r us H6 hr6 er6 pr6 o6 => ?_⟩
    have st := st.call o6
    refine ⟨_, rfl, b, d, _, rest, rfl, by decide, st.bx, fun kd H7 k0 k1 bx7 o7 => ?_⟩
    have st := st.draw o7 bx7
    obtain ⟨out7, eo7⟩ := st.pob
    refine ⟨_, rfl, tree, v, rfl, st.tv, by omega, by omega, fun r2 us2 H8 hr8 er8 pr8 o8 => ?_⟩
    have st := st.call o8
    -- the family
    have l8 : us2.length = (Sn.fams tree).length := (pget pr8).1
    have nr2b : r2 ≠ b := by
      obtain ⟨xs, e⟩ := bx7.is
      exact (ne_of_none e hr8).symm
    refine ⟨_, rfl, _, rfl, _, rfl, r2, _, rfl, .inl (SqL.of er8), b, d, _, rest, rfl, by rw [l8]; unfold Sn.fams; rw [List.length_cons]; omega, st.bx, fun rf H9 f0 f1 bx9 o9 => ?_⟩
    obtain ⟨m, rfl⟩ : ∃ m : Nat, rf = (m : Int) := ⟨rf.toNat, by omega⟩
    have hm : m < us2.length := by omega
    obtain ⟨⟨p, ks⟩, gf, hfam⟩ := pmem pr8 (List.getElem?_eq_getElem hm)
    obtain ⟨ft, fl, fus, efv, eft, efl, pfl, nft, nfl⟩ := hfam
    have mf : (p, ks) ∈ Sn.fams tree := List.mem_of_getElem? gf
    refine ⟨r2, _, _, _, rfl, rfl, SqL.of (o9.keep r2 _ (by simp [nr2b]) er8), atI_nat (List.getElem?_eq_getElem hm), ?_⟩
    rw [efv]
    have st := st.draw o9 bx9
    have nb0 : ∀ x, H7 x = none → x ≠ b := fun x e => by
      obtain ⟨xs, e2⟩ := bx7.is
      exact (ne_of_none e2 e).symm
    have nfp : ft ≠ po := (ne_of_none eo7 nft).symm
    have nlp : fl ≠ po := (ne_of_none eo7 nfl).symm
    have eft := o9.keep ft _ (by simp [nb0 ft nft]) eft
    have efl := o9.keep fl _ (by simp [nb0 fl nfl]) efl
    have pfl := paired_oth pfl o9
    have nrb : r ≠ b := by
      obtain ⟨xs, e2⟩ := bx7.is
      obtain ⟨ys, e3⟩ := bx.is
      intro e
      have h5 : ∃ xs, H5 b = some (.lst xs) := by
        obtain ⟨zs, e4⟩ := (show Box H5 b d rest from ‹St51 H5 b d rest po T qL v v1 B tree ops i›.bx).is
        exact ⟨zs, e4⟩
      obtain ⟨zs, e4⟩ := h5
      rw [e, e4] at hr6; cases hr6
    have er9 := o9.keep r _ (by simp [nrb]) (o8.keep r _ (by simp) (o7.keep r _ (by simp [nrb]) er6))
    have pr9 := paired_oth (paired_oth (paired_oth pr6 o7) o8) o9
    have lfus : fus.length = ks.length := by rw [(paired_get pfl).1, List.length_map]
    have lks : ks.length ≤ 1000 := by
      have := fams_len mf
      have : ks.length ≤ (Sn.all tree).length := this
      omega
    -- before which
    refine ⟨fun σ HM => ∃ bh : Key0, σ = [some (.ref a), some (.ref b), some v, some v1, some (.ref po), some (.int (i : Int)), some (.ref r), some (.int kd), some (.ref r2), some (.ref ft), some (k0V bh), x11, x12, x13, x14, x15] ∧ Here tree p ks bh ∧ Oth [b] H9 HM ∧ Box HM b d rest, ?_, fun σ HM hM => ?_⟩
    · refine ⟨_, rfl, ft, _, _, _, rfl, rfl, SqL.of eft, at1, fl, _, rfl, .inl (SqL.of efl), ?_⟩
      refine ⟨_, _, rfl, rfl, _, rfl, ite2 (fun c => ?_) (fun c => ?_)⟩
      · have c' : 0 < fus.length := by have := of_decide_eq_true c; omega
        refine ⟨_, rfl, b, d, _, rest, rfl, by decide, bx9, fun r1 H10 r10 r11 bx10 o10 => ⟨_, _, rfl, rfl, _, rfl, ite2 (fun c2 => ?_) (fun c2 => ?_)⟩⟩
        · have eft1 := o10.keep ft _ (by simp [nb0 ft nft]) eft
          have efl1 := o10.keep fl _ (by simp [nb0 fl nfl]) efl
          refine ⟨_, rfl, ft, _, _, _, rfl, rfl, SqL.of eft1, at1, _, rfl, _, rfl, ft, _, _, _, rfl, rfl, SqL.of eft1, at1, fl, _, rfl, .inl (SqL.of efl1), b, d, _, rest, rfl, by omega, bx10, fun r3 H11 r30 r31 bx11 o11 => ?_⟩
          obtain ⟨j, rfl⟩ : ∃ j : Nat, r3 = (j : Int) := ⟨r3.toNat, by omega⟩
          have hj : j < fus.length := by omega
          obtain ⟨nj, gj⟩ : ∃ nj, ks[j]? = some nj := ⟨_, List.getElem?_eq_getElem (by omega)⟩
          have tj : IsT H11 nj.toT fus[j] := (((paired_get pfl).2 j _ _ (by rw [List.getElem?_map, gj]; rfl) (List.getElem?_eq_getElem hj)).oth o10).oth o11
          obtain ⟨bj, y, ys, ebj, ej, ey⟩ := sn_num tj
          refine ⟨fl, _, _, _, rfl, rfl, SqL.of (o11.keep fl _ (by simp [nb0 fl nfl]) efl1), atI_nat (List.getElem?_eq_getElem hj), ?_⟩
          rw [ebj]
          refine ⟨bj, _, _, _, rfl, rfl, SqT.of ej, ey, some nj.num, rfl, ⟨mf, fun y e => ?_⟩, o10.trans o11, bx11⟩
          cases e
          exact List.mem_map.mpr ⟨nj, List.mem_of_getElem? gj, rfl⟩
        · exact ⟨none, rfl, ⟨mf, fun _ z => nomatch z⟩, o10, bx10⟩
      · exact iteF ⟨none, rfl, ⟨mf, fun _ z => nomatch z⟩, Oth.refl, bx9⟩
    obtain ⟨bh, rfl, here, oM, bxM⟩ := hM
    have st := st.draw oM bxM
    have eft := oM.keep ft _ (by simp [nb0 ft nft]) eft
    have efl := oM.keep fl _ (by simp [nb0 fl nfl]) efl
    have pfl := paired_oth pfl oM
    have er9 := oM.keep r _ (by simp [nrb]) er9
    have pr9 := paired_oth pr9 oM
    obtain ⟨out, eo, po'⟩ := st.pl
    have lo := st.olen po'
    have lt : out.length < sizeLine := Nat.lt_of_le_of_lt (by omega : _ ≤ 20) (by decide)
    have lus : us.length = (Sn.all tree).length := by rw [(paired_get pr9).1, List.length_map]
    -- a node that is drawn from a list
    have pick : ∀ {H1 : Hp} {l : List Sn} {zs : List V} (j : Nat) (hj : j < zs.length), Paired (IsT H1) (l.map Sn.toT) zs → ∃ nj bj y ys, l[j]? = some nj ∧ zs[j] = .ref bj ∧ H1 bj = some (.tup (y :: .int (nj.num : Int) :: ys)) ∧ atI (y :: .int (nj.num : Int) :: ys) 1 = some (.int (nj.num : Int)) ∧ IsT H1 nj.toT zs[j] := fun {H1 l zs} j hj pz => by
      have lz : zs.length = l.length := by rw [(paired_get pz).1, List.length_map]
      obtain ⟨nj, gj⟩ : ∃ nj, l[j]? = some nj := ⟨_, List.getElem?_eq_getElem (by omega)⟩
      have tj : IsT H1 nj.toT zs[j] := (paired_get pz).2 j _ _ (by rw [List.getElem?_map, gj]; rfl) (List.getElem?_eq_getElem hj)
      obtain ⟨bj, y, ys, ebj, ej, ey⟩ := sn_num tj
      exact ⟨nj, bj, y, ys, gj, ebj, ej, ey, tj⟩
    have skip : ∀ {H1 : Hp}, St51 H1 b d rest po T qL v v1 B tree ops i → St51 H1 b d rest po T qL v v1 B tree ops (i + 1) := fun s => ⟨s.bx, s.pl, s.tv, s.t0, s.tab, s.nb, s.nd, s.m.next⟩
    have dif : ∀ m n : Nat, m ≠ n → decide (V.int ((m : Nat) : Int) = V.int ((n : Nat) : Int)) = false := fun m n h => decide_eq_false fun z => h (by have := V.int.inj z; omega)
    have kcase : kd = 0 ∨ kd = 1 ∨ kd = 2 ∨ kd = 3 ∨ kd = 4 := by omega
    refine ⟨_, rfl, rfl, _, rfl, ?_⟩
    rcases kcase with rfl | rfl | rfl | rfl | rfl
    · -- take
      refine iteT ⟨_, rfl, r, _, rfl, .inl (SqL.of er9), _, _, rfl, rfl, _, rfl, ite2 (fun c => ?_) (fun c => ?_)⟩
      · have c' : 0 < us.length := by have := of_decide_eq_true c; omega
        refine ⟨_, rfl, _, rfl, _, rfl, r, _, rfl, .inl (SqL.of er9), b, d, _, rest, rfl, by omega, st.bx, fun r3 H11 r30 r31 bx11 o11 => ?_⟩
        obtain ⟨j, rfl⟩ : ∃ j : Nat, r3 = (j : Int) := ⟨r3.toNat, by omega⟩
        have hj : j < us.length := by omega
        obtain ⟨nj, bj, y, ys, gj, ebj, ej, ey, tj⟩ := pick j hj (paired_oth pr9 o11)
        refine ⟨r, _, _, _, rfl, rfl, SqL.of (o11.keep r _ (by simp [nrb]) er9), atI_nat (List.getElem?_eq_getElem hj), ?_⟩
        rw [ebj]
        refine ⟨bj, _, _, _, rfl, rfl, SqT.of ej, ey, ?_⟩
        have st := st.draw o11 bx11
        have eo := o11.keep po _ (by simp [st.nb]) eo
        refine ⟨_, rfl, .inl ⟨rfl, _, SqL.of eo⟩, _, rfl, sz, fun t ht => ?_⟩
        have ot := Oth.new (S := []) (o := .tup [.str "take", .int (nj.num : Int)]) ht
        have st := st.call ot
        have eo := ot.keep po _ (by simp) eo
        obtain ⟨n1, n2, n3, n4, n5, n6, n7⟩ := st.note (op := .take nj.num) (x := .ref t) eo (paired_oth (paired_oth po' o11) ot) (.mk2 upd_same (.str _) (.int _))
        refine ⟨po, out, _, rfl, rfl, eo, lt, ?_⟩
        generalize upd _ po (.lst (out ++ [.ref t])) = H12 at n1 n2 n3 n4 n5 n6 n7
        refine ⟨_, rfl, _, rfl, tree, v, nj.num, rfl, n4, by omega, by omega, fun r4 H13 t4 o13 => ?_⟩
        exact ⟨Sn.wos nj.num tree, r4, _, _, _, _, _, _, _, _, _, _, _, _, rfl, n1.oth o13 (by simp) (by simp), ⟨_, o13.keep po _ (by simp) n2, paired_oth n3 o13⟩, t4, n5.oth o13, tabS_oth n6 o13 (fun _ h => nomatch h), st.nb, st.nd, st.m.take nj.num⟩
      · have z0 : us.length = 0 := by have := of_decide_eq_false (eq_false_of_ne_true c); omega
        have z1 : fus.length = 0 := by
          have := fams_len mf
          have : ks.length ≤ (Sn.all tree).length := this
          omega
        exact ⟨_, rfl, rfl, _, rfl, iteF ⟨_, rfl, rfl, _, rfl, iteF ⟨_, rfl, rfl, _, rfl, iteF ⟨_, rfl, ft, _, _, _, rfl, rfl, SqL.of eft, at1, fl, _, rfl, .inl (SqL.of efl), _, _, rfl, rfl, _, rfl, iteFb (by rw [z1]; rfl) ⟨tree, v, ops, _, _, _, _, _, _, _, _, _, _, _, rfl, skip st⟩⟩⟩⟩⟩
    · -- a text
      refine iteF (iteF ⟨_, rfl, rfl, _, rfl, iteT ?_⟩)
      refine ⟨_, rfl, r, rfl, ⟨us, SqL.of er9⟩, fun D hD => lc_list (xs := us)
        (fun j H2 => ∃ (tl : List Sn) (zs : List V), H2 D = some (.lst zs) ∧ zs.length ≤ j ∧ Paired (IsT H2) (tl.map Sn.toT) zs ∧ (∀ q ∈ tl, q ∈ Sn.all tree ∧ ∃ k s, q = .text k s) ∧ Oth [D] HM H2)
        ⟨[], [], upd_same, Nat.le_refl _, .nil, (fun q h => nomatch h), Oth.new hD⟩ (fun j H2 _ hW => ?_) (fun j x H2 hx hW => ?_) (fun H2 hW => ?_)⟩
      · obtain ⟨_, _, _, _, _, _, o2⟩ := hW
        exact SqL.of (o2.keep r _ (by simp [ne_of_none er9 hD]) er9)
      · obtain ⟨tl, zs, hD2, lz, pz, hq, o2⟩ := hW
        have hj : j < us.length := (List.getElem?_eq_some_iff.mp hx).1
        obtain ⟨nj, gj⟩ : ∃ nj, (Sn.all tree)[j]? = some nj := ⟨_, List.getElem?_eq_getElem (by omega)⟩
        have tj : IsT H2 nj.toT x := ((paired_get pr9).2 j _ _ (by rw [List.getElem?_map, gj]; rfl) hx).oth o2
        cases nj with
        | text q' s' =>
          obtain ⟨b', _, w1, w2, rfl, eb', p0, p1, p2⟩ := IsT.inv3 tj
          obtain rfl := p0.of_str
          refine ⟨rfl, _, rfl, b', _, _, _, rfl, rfl, SqT.of eb', at0, rfl, _, rfl, iteT ⟨_, rfl, zs, hD2, Nat.lt_of_le_of_lt (by omega : _ ≤ 1000) (by decide), tl ++ [.text q' s'], _, upd_same, by rw [List.length_append, List.length_singleton]; omega, ?_, fun q hqq => ?_, o2.trans (Oth.put (by simp) hD2)⟩⟩
          · have op : Oth [D] H2 (upd H2 D (.lst (zs ++ [.ref b']))) := Oth.put (by simp) hD2
            rw [List.map_append]
            exact paired_app (paired_oth pz op) (.cons (tj.oth op) .nil)
          · rcases List.mem_append.mp hqq with h | h
            · exact hq q h
            · rw [List.mem_singleton.mp h]; exact ⟨List.mem_of_getElem? gj, _, _, rfl⟩
        | input q' s' =>
          obtain ⟨b', _, w1, w2, w3, rfl, eb', p0, p1, p2, p3⟩ := IsT.inv4 tj
          obtain rfl := p0.of_str
          exact ⟨rfl, _, rfl, b', _, _, _, rfl, rfl, SqT.of eb', at0, rfl, _, rfl, iteF ⟨tl, zs, hD2, by omega, pz, hq, o2⟩⟩
        | box q' t' inner =>
          obtain ⟨b', _, w1, w2, w3, rfl, eb', p0, p1, p2, p3⟩ := IsT.inv4 tj
          obtain rfl := p0.of_str
          exact ⟨rfl, _, rfl, b', _, _, _, rfl, rfl, SqT.of eb', at0, rfl, _, rfl, iteF ⟨tl, zs, hD2, by omega, pz, hq, o2⟩⟩
      obtain ⟨tl, zs, hD2, lz, pz, hq, o2⟩ := hW
      have o2' := Oth.drop o2 hD
      have st := st.call o2'
      have eo := o2'.keep po _ (by simp) eo
      have po' := paired_oth po' o2'
      refine ⟨_, rfl, D, _, rfl, .inl (SqL.of hD2), _, _, rfl, rfl, _, rfl, ite2 (fun c => ?_) (fun c => ?_)⟩
      · have c' : 0 < zs.length := by have := of_decide_eq_true c; omega
        have nDb : D ≠ b := by
          obtain ⟨xs, e2⟩ := bxM.is
          exact (ne_of_none e2 hD).symm
        refine ⟨_, rfl, _, rfl, _, rfl, D, _, rfl, .inl (SqL.of hD2), b, d, _, rest, rfl, by omega, st.bx, fun r3 H11 r30 r31 bx11 o11 => ?_⟩
        obtain ⟨j, rfl⟩ : ∃ j : Nat, r3 = (j : Int) := ⟨r3.toNat, by omega⟩
        have hj : j < zs.length := by omega
        obtain ⟨nj, bj, y, ys, gj, ebj, ej, ey, tj⟩ := pick j hj (paired_oth pz o11)
        obtain ⟨mj, k', s', enj⟩ := hq nj (List.mem_of_getElem? gj)
        refine ⟨D, _, _, _, rfl, rfl, SqL.of (o11.keep D _ (by simp [nDb]) hD2), atI_nat (List.getElem?_eq_getElem hj), ?_⟩
        rw [ebj]
        refine ⟨bj, _, _, _, rfl, rfl, SqT.of ej, ey, ?_⟩
        have st := st.draw o11 bx11
        have eo := o11.keep po _ (by simp [st.nb]) eo
        obtain ⟨li, lg⟩ := int11 i hi10
        obtain ⟨sx, hsx⟩ : ∃ sx : Str, sx = ("t" : Str) ++ (toString ((i : Nat) : Int) : String) := ⟨_, rfl⟩
        refine ⟨_, rfl, .inl ⟨rfl, _, SqL.of eo⟩, _, rfl, _, rfl, _, rfl, lg, _, _, rfl, rfl, sum_t li, sz, fun t ht => ?_⟩
        rw [← hsx]
        have ot := Oth.new (S := []) (o := .tup [.str "text", .int (nj.num : Int), .str sx]) ht
        have st := st.call ot
        have eo := ot.keep po _ (by simp) eo
        obtain ⟨n1, n2, n3, n4, n5, n6, n7⟩ := st.note (op := .text nj.num sx) (x := .ref t) eo (paired_oth (paired_oth po' o11) ot) (.mk3 upd_same (.str _) (.int _) (.str _))
        refine ⟨po, out, _, rfl, rfl, eo, lt, ?_⟩
        generalize upd _ po (.lst (out ++ [.ref t])) = H12 at n1 n2 n3 n4 n5 n6 n7
        refine ⟨_, rfl, _, rfl, _, rfl, _, rfl, lg, _, _, rfl, rfl, sum_t li, ?_⟩
        rw [← hsx]
        refine ⟨tree, v, nj.num, sx, rfl, n4, by omega, by omega, fun r4 H13 t4 o13 => ?_⟩
        refine ⟨Sn.pts (.text nj.num sx) tree, r4, _, _, _, _, _, _, _, _, _, _, _, _, rfl, n1.oth o13 (by simp) (by simp), ⟨_, o13.keep po _ (by simp) n2, paired_oth n3 o13⟩, t4, n5.oth o13, tabS_oth n6 o13 (fun _ h => nomatch h), st.nb, st.nd, st.m.leaf (.text nj.num sx) (.text nj.num sx) rfl trivial rfl fun q2 hq2 e2 => ?_⟩
        have := num_inj st.m.sim.nd hq2 mj e2
        rw [this, enj]; rfl
      · exact ⟨tree, v, ops, _, _, _, _, _, _, _, _, _, _, _, rfl, skip st⟩
    · -- made and put
      refine iteF (iteF ⟨_, rfl, rfl, _, rfl, iteF ⟨_, rfl, rfl, _, rfl, iteF ⟨_, rfl, rfl, _, rfl, iteT ?_⟩⟩⟩)
      refine ⟨_, rfl, _, _, rfl, rfl, sz, fun t1 ht1 => ?_⟩
      refine ⟨_, rfl, _, _, rfl, rfl, sz, fun t0 ht0 => ⟨sz, fun t2 ht2 => ?_⟩⟩
      refine ⟨_, rfl, _, _, rfl, rfl, _, rfl, sz, fun t3 ht3 => ⟨sz, fun l hl => ?_⟩⟩
      have e100 : (100 : Int) + (i : Int) = ((100 + i : Nat) : Int) := by omega
      have u1 := Oth.new (S := []) (o := .tup [.str "text", .int (100 + (i : Int)), .str "m"]) ht1
      have u0 := Oth.new (S := []) (o := .tup []) ht0
      have u2 := Oth.new (S := []) (o := .tup [.str "box", .int (100 + (i : Int)), .str "ul", .ref t0]) ht2
      have u3 := Oth.new (S := []) (o := .tup [.str "input", .int (100 + (i : Int)), .str "q", .int (i : Int)]) ht3
      have u4 := Oth.new (S := []) (o := .lst [.ref t1, .ref t2, .ref t3]) hl
      have i1 := (((upd_same (H := HM) (a := t1) (o := .tup [.str "text", .int (100 + (i : Int)), .str "m"]))))
      have j1 := u4.tup _ _ (u3.tup _ _ (u2.tup _ _ (u0.tup _ _ i1)))
      have j0 := u4.tup _ _ (u3.tup _ _ (u2.tup _ _ (upd_same (H := upd HM t1 (.tup [.str "text", .int (100 + (i : Int)), .str "m"])) (a := t0) (o := .tup []))))
      have j2 := u4.tup _ _ (u3.tup _ _ (upd_same (H := upd (upd HM t1 (.tup [.str "text", .int (100 + (i : Int)), .str "m"])) t0 (.tup [])) (a := t2) (o := .tup [.str "box", .int (100 + (i : Int)), .str "ul", .ref t0])))
      have j3 := u4.tup _ _ (upd_same (H := upd (upd (upd HM t1 (.tup [.str "text", .int (100 + (i : Int)), .str "m"])) t0 (.tup [])) t2 (.tup [.str "box", .int (100 + (i : Int)), .str "ul", .ref t0])) (a := t3) (o := .tup [.str "input", .int (100 + (i : Int)), .str "q", .int (i : Int)]))
      have jl := upd_same (H := upd (upd (upd (upd HM t1 (.tup [.str "text", .int (100 + (i : Int)), .str "m"])) t0 (.tup [])) t2 (.tup [.str "box", .int (100 + (i : Int)), .str "ul", .ref t0])) t3 (.tup [.str "input", .int (100 + (i : Int)), .str "q", .int (i : Int)])) (a := l) (o := .lst [.ref t1, .ref t2, .ref t3])
      have oM4 := u1.trans (u0.trans (u2.trans (u3.trans u4)))
      have hlM := back (u1.trans (u0.trans (u2.trans u3))) hl (by simp)
      have st := st.call oM4
      have eo := oM4.keep po _ (by simp) eo
      have po' := paired_oth po' oM4
      have eft := oM4.keep ft _ (by simp) eft
      generalize upd (upd (upd (upd (upd HM t1 (.tup [.str "text", .int (100 + (i : Int)), .str "m"])) t0 (.tup [])) t2 (.tup [.str "box", .int (100 + (i : Int)), .str "ul", .ref t0])) t3 (.tup [.str "input", .int (100 + (i : Int)), .str "q", .int (i : Int)])) l (.lst [.ref t1, .ref t2, .ref t3]) = H10 at j0 j1 j2 j3 jl st eo po' eft
      have nlb : l ≠ b := by
        obtain ⟨xs, e2⟩ := bxM.is
        exact (ne_of_none e2 hlM).symm
      refine ⟨_, rfl, b, d, _, rest, rfl, by decide, st.bx, fun r3 H11 r30 r31 bx11 o11 => ?_⟩
      have st := st.draw o11 bx11
      have eo := o11.keep po _ (by simp [st.nb]) eo
      have po' := paired_oth po' o11
      have eft := o11.keep ft _ (by simp [nb0 ft nft]) eft
      have three : ∃ (m : Sn) (bm : Addr), atI [V.ref t1, .ref t2, .ref t3] r3 = some (.ref bm) ∧ IsT H11 m.toT (.ref bm) ∧ m.num = 100 + i ∧ m.kids = [] := by
        have : r3 = 0 ∨ r3 = 1 ∨ r3 = 2 := by omega
        rcases this with h | h | h <;> subst h
        · exact ⟨.text (100 + i) "m", t1, at0, by have := o11.tup _ _ j1; rw [e100] at this; exact .mk3 this (.str _) (.int _) (.str _), rfl, rfl⟩
        · exact ⟨.box (100 + i) "ul" [], t2, at1, by have := o11.tup _ _ j2; rw [e100] at this; exact .mk4 this (.str _) (.int _) (.str _) (.mk (o11.tup _ _ j0) .nil), rfl, rfl⟩
        · exact ⟨.input (100 + i) (i : Int), t3, at2, by have := o11.tup _ _ j3; rw [e100] at this; exact .mk4 this (.str _) (.int _) (.str _) (.int _), rfl, rfl⟩
      obtain ⟨m, bm, eat, tm, hnum, hkids⟩ := three
      refine ⟨l, _, _, _, rfl, rfl, SqL.of (o11.keep l _ (by simp [nlb]) jl), eat, ?_⟩
      -- it is noted
      refine ⟨_, rfl, .inl ⟨rfl, _, SqL.of eo⟩, _, rfl, sz, fun t ht => ?_⟩
      have ot := Oth.new (S := []) (o := .tup [.str "make", .ref bm]) ht
      have st := st.call ot
      have eo := ot.keep po _ (by simp) eo
      have eft := ot.keep ft _ (by simp) eft
      obtain ⟨n1, n2, n3, n4, n5, n6, n7⟩ := note51 (op := .make m) (x := .ref t) st.bx st.tv st.t0 st.tab st.nb st.nd eo (paired_oth po' ot) (.mk2 upd_same (.str _) (tm.oth ot))
      have tm := (tm.oth ot).oth n7
      refine ⟨po, out, _, rfl, rfl, eo, lt, ?_⟩
      have eft := n7.keep ft _ (by simp [nfp]) eft
      generalize upd _ po (.lst (out ++ [.ref t])) = H12 at n1 n2 n3 n4 n5 n6 eft tm
      obtain ⟨bm', y, ys, ebm, em, ey⟩ := sn_num tm
      cases ebm
      refine ⟨_, rfl, .inl ⟨rfl, _, SqL.of n2⟩, _, rfl, bm, _, _, _, rfl, rfl, SqT.of em, ey, _, rfl, ft, _, _, _, rfl, rfl, SqL.of eft, at0, _, rfl, sz, fun t9 ht9 => ?_⟩
      have o9' := Oth.new (S := []) (o := .tup [.str "put", .int (m.num : Int), k0V p, k0V bh]) ht9
      obtain ⟨w1, w2, w3, w4, w5, w6, w7⟩ := note51 (op := .put m.num p bh) (x := .ref t9) (n1.oth o9' (by simp) (by simp)) (n4.oth o9') (n5.oth o9') (tabS_oth n6 o9' (fun _ h => nomatch h)) st.nb st.nd (o9'.keep po _ (by simp) n2) (paired_oth n3 o9') (.mk4 upd_same (.str _) (.int _) (k0T_is _) (k0T_is _))
      refine ⟨po, _, _, rfl, rfl, o9'.keep po _ (by simp) n2, Nat.lt_of_le_of_lt (by simp; omega : _ ≤ 21) (by decide), ?_⟩
      have eft := w7.keep ft _ (by simp [nfp]) (o9'.keep ft _ (by simp) eft)
      have tm := (tm.oth o9').oth w7
      generalize upd _ po (.lst (out ++ [.ref t] ++ [.ref t9])) = H13 at w1 w2 w3 w4 w5 w6 eft tm
      have here2 := st.m.at1 (by omega) m here
      subst hqL
      dsimp only [tAsg]
      refine lend_in (P := P) (w := w) (K := K) (mg := mg) (base := base) (kc := kb + 1) (n := 23) (fun f c' => ⟨_, rfl⟩) (tree := tree) (v := v) (vm := .ref bm) (p := p) (b := bh) (m := m) (fun Q2 h => ⟨_, rfl, _, rfl, ft, _, _, _, rfl, rfl, SqL.of eft, at0, h⟩) w6 rfl w4 tm (by omega) (by omega) here2.1 here2.2 fun r4 H14 t4 eN tab4 => ?_
      exact ⟨_, r4, _, _, _, _, _, _, _, _, _, _, _, _, rfl, box_ext w1 eN, ⟨_, eN _ _ w2 (fun _ z => nomatch z), by rw [List.append_assoc] at w3; exact ptups (ext_tup eN) w3⟩, t4, w5.tups (ext_tup eN), tab4, st.nb, st.nd, st.m.make m hnum hkids here⟩
    · -- put elsewhere
      refine iteF (iteF ⟨_, rfl, rfl, _, rfl, iteF ⟨_, rfl, rfl, _, rfl, iteF ⟨_, rfl, rfl, _, rfl, iteF ?_⟩⟩⟩)
      refine ⟨_, rfl, ft, _, _, _, rfl, rfl, SqL.of eft, at1, fl, _, rfl, .inl (SqL.of efl), _, _, rfl, rfl, _, rfl, ite2 (fun c => ?_) (fun c => ?_)⟩
      · have c' : 0 < fus.length := by have := of_decide_eq_true c; omega
        refine ⟨_, rfl, ft, _, _, _, rfl, rfl, SqL.of eft, at1, _, rfl, _, rfl, ft, _, _, _, rfl, rfl, SqL.of eft, at1, fl, _, rfl, .inl (SqL.of efl), b, d, _, rest, rfl, by omega, st.bx, fun r3 H11 r30 r31 bx11 o11 => ?_⟩
        obtain ⟨j, rfl⟩ : ∃ j : Nat, r3 = (j : Int) := ⟨r3.toNat, by omega⟩
        have hj : j < fus.length := by omega
        obtain ⟨nj, bj, y, ys, gj, ebj, ej, ey, tj⟩ := pick j hj (paired_oth pfl o11)
        rw [ebj] at tj
        refine ⟨fl, _, _, _, rfl, rfl, SqL.of (o11.keep fl _ (by simp [nb0 fl nfl]) efl), atI_nat (List.getElem?_eq_getElem hj), ?_⟩
        rw [ebj]
        have st := st.draw o11 bx11
        have eo := o11.keep po _ (by simp [st.nb]) eo
        have po' := paired_oth po' o11
        have eft := o11.keep ft _ (by simp [nb0 ft nft]) eft
        refine ⟨_, rfl, bj, _, _, _, rfl, rfl, SqT.of ej, ey, _, rfl, (k0V_eq (some nj.num) bh).1, _, rfl, ?_⟩
        by_cases hbh : bh = some nj.num
        · exact iteFb (by rw [hbh]; simp [k0V]) ⟨tree, v, ops, _, _, _, _, _, _, _, _, _, _, _, rfl, skip st⟩
        · refine iteTb (by have := (k0V_eq (some nj.num) bh).2; rw [show decide (V.int (nj.num : Int) = k0V bh) = decide ((some nj.num : Key0) = bh) from this, decide_eq_false (fun z => hbh z.symm)]; rfl) ?_
          refine ⟨_, rfl, .inl ⟨rfl, _, SqL.of eo⟩, _, rfl, bj, _, _, _, rfl, rfl, SqT.of ej, ey, _, rfl, ft, _, _, _, rfl, rfl, SqL.of eft, at0, _, rfl, sz, fun t9 ht9 => ?_⟩
          have o9' := Oth.new (S := []) (o := .tup [.str "put", .int (nj.num : Int), k0V p, k0V bh]) ht9
          obtain ⟨w1, w2, w3, w4, w5, w6, w7⟩ := note51 (op := .put nj.num p bh) (x := .ref t9) (st.bx.oth o9' (by simp) (by simp)) (st.tv.oth o9') (st.t0.oth o9') (tabS_oth st.tab o9' (fun _ h => nomatch h)) st.nb st.nd (o9'.keep po _ (by simp) eo) (paired_oth po' o9') (.mk4 upd_same (.str _) (.int _) (k0T_is _) (k0T_is _))
          refine ⟨po, _, _, rfl, rfl, o9'.keep po _ (by simp) eo, lt, ?_⟩
          have eft := w7.keep ft _ (by simp [nfp]) (o9'.keep ft _ (by simp) eft)
          have tm := (tj.oth o9').oth w7
          have ej := w7.tup _ _ (o9'.tup _ _ ej)
          generalize upd _ po (.lst (out ++ [.ref t9])) = H13 at w1 w2 w3 w4 w5 w6 eft tm ej
          refine ⟨_, rfl, _, rfl, bj, _, _, _, rfl, rfl, SqT.of ej, ey, tree, v, nj.num, rfl, w4, by omega, by omega, fun r5 H15 t5 o15 => ?_⟩
          have here2 := st.m.at2 (by omega) nj here hbh
          have lw := (sub_wos nj.num tree).length_le
          unfold nums at lw
          rw [List.length_map, List.length_map] at lw
          have hw := hts_le (Sn.wos nj.num tree)
          have nm := List.mem_of_getElem? gj
          subst hqL
          dsimp only [tAsg]
          refine lend_in (P := P) (w := w) (K := K) (mg := mg) (base := base) (kc := kb + 1) (n := 23) (fun f c' => ⟨_, rfl⟩) (tree := Sn.wos nj.num tree) (v := r5) (vm := .ref bj) (p := p) (b := bh) (m := nj) (fun Q2 h => ⟨_, rfl, _, rfl, ft, _, _, _, rfl, rfl, SqL.of (o15.keep ft _ (by simp) eft), at0, h⟩) (tabS_oth w6 o15 (fun _ h => nomatch h)) rfl t5 (tm.oth o15) (by omega) (by omega) here2.1 here2.2 fun r4 H14 t4 eN tab4 => ?_
          exact ⟨_, r4, _, _, _, _, _, _, _, _, _, _, _, _, rfl, box_ext (w1.oth o15 (by simp) (by simp)) eN, ⟨_, eN _ _ (o15.keep po _ (by simp) w2) (fun _ z => nomatch z), ptups (ext_tup eN) (paired_oth w3 o15)⟩, t4, (w5.oth o15).tups (ext_tup eN), tab4, st.nb, st.nd, st.m.move nj here nm hbh⟩
      · exact ⟨tree, v, ops, _, _, _, _, _, _, _, _, _, _, _, rfl, skip st⟩
    · -- a field
      refine iteF (iteF ⟨_, rfl, rfl, _, rfl, iteF ⟨_, rfl, rfl, _, rfl, iteT ?_⟩⟩)
      refine ⟨_, rfl, r, rfl, ⟨us, SqL.of er9⟩, fun D hD => lc_list (xs := us)
        (fun j H2 => ∃ (tl : List Sn) (zs : List V), H2 D = some (.lst zs) ∧ zs.length ≤ j ∧ Paired (IsT H2) (tl.map Sn.toT) zs ∧ (∀ q ∈ tl, q ∈ Sn.all tree ∧ ∃ k s, q = .input k s) ∧ Oth [D] HM H2)
        ⟨[], [], upd_same, Nat.le_refl _, .nil, (fun q h => nomatch h), Oth.new hD⟩ (fun j H2 _ hW => ?_) (fun j x H2 hx hW => ?_) (fun H2 hW => ?_)⟩
      · obtain ⟨_, _, _, _, _, _, o2⟩ := hW
        exact SqL.of (o2.keep r _ (by simp [ne_of_none er9 hD]) er9)
      · obtain ⟨tl, zs, hD2, lz, pz, hq, o2⟩ := hW
        have hj : j < us.length := (List.getElem?_eq_some_iff.mp hx).1
        obtain ⟨nj, gj⟩ : ∃ nj, (Sn.all tree)[j]? = some nj := ⟨_, List.getElem?_eq_getElem (by omega)⟩
        have tj : IsT H2 nj.toT x := ((paired_get pr9).2 j _ _ (by rw [List.getElem?_map, gj]; rfl) hx).oth o2
        cases nj with
        | input q' s' =>
          obtain ⟨b', _, w1, w2, w3, rfl, eb', p0, p1, p2, p3⟩ := IsT.inv4 tj
          obtain rfl := p0.of_str
          refine ⟨rfl, _, rfl, b', _, _, _, rfl, rfl, SqT.of eb', at0, rfl, _, rfl, iteT ⟨_, rfl, zs, hD2, Nat.lt_of_le_of_lt (by omega : _ ≤ 1000) (by decide), tl ++ [.input q' s'], _, upd_same, by rw [List.length_append, List.length_singleton]; omega, ?_, fun q hqq => ?_, o2.trans (Oth.put (by simp) hD2)⟩⟩
          · have op : Oth [D] H2 (upd H2 D (.lst (zs ++ [.ref b']))) := Oth.put (by simp) hD2
            rw [List.map_append]
            exact paired_app (paired_oth pz op) (.cons (tj.oth op) .nil)
          · rcases List.mem_append.mp hqq with h | h
            · exact hq q h
            · rw [List.mem_singleton.mp h]; exact ⟨List.mem_of_getElem? gj, _, _, rfl⟩
        | text q' s' =>
          obtain ⟨b', _, w1, w2, rfl, eb', p0, p1, p2⟩ := IsT.inv3 tj
          obtain rfl := p0.of_str
          exact ⟨rfl, _, rfl, b', _, _, _, rfl, rfl, SqT.of eb', at0, rfl, _, rfl, iteF ⟨tl, zs, hD2, by omega, pz, hq, o2⟩⟩
        | box q' t' inner =>
          obtain ⟨b', _, w1, w2, w3, rfl, eb', p0, p1, p2, p3⟩ := IsT.inv4 tj
          obtain rfl := p0.of_str
          exact ⟨rfl, _, rfl, b', _, _, _, rfl, rfl, SqT.of eb', at0, rfl, _, rfl, iteF ⟨tl, zs, hD2, by omega, pz, hq, o2⟩⟩
      obtain ⟨tl, zs, hD2, lz, pz, hq, o2⟩ := hW
      have o2' := Oth.drop o2 hD
      have st := st.call o2'
      have eo := o2'.keep po _ (by simp) eo
      have po' := paired_oth po' o2'
      refine ⟨_, rfl, D, _, rfl, .inl (SqL.of hD2), _, _, rfl, rfl, _, rfl, ite2 (fun c => ?_) (fun c => ?_)⟩
      · have c' : 0 < zs.length := by have := of_decide_eq_true c; omega
        have nDb : D ≠ b := by
          obtain ⟨xs, e2⟩ := bxM.is
          exact (ne_of_none e2 hD).symm
        refine ⟨_, rfl, _, rfl, _, rfl, D, _, rfl, .inl (SqL.of hD2), b, d, _, rest, rfl, by omega, st.bx, fun r3 H11 r30 r31 bx11 o11 => ?_⟩
        obtain ⟨j, rfl⟩ : ∃ j : Nat, r3 = (j : Int) := ⟨r3.toNat, by omega⟩
        have hj : j < zs.length := by omega
        obtain ⟨nj, bj, y, ys, gj, ebj, ej, ey, tj⟩ := pick j hj (paired_oth pz o11)
        obtain ⟨mj, k', s', enj⟩ := hq nj (List.mem_of_getElem? gj)
        refine ⟨D, _, _, _, rfl, rfl, SqL.of (o11.keep D _ (by simp [nDb]) hD2), atI_nat (List.getElem?_eq_getElem hj), ?_⟩
        rw [ebj]
        refine ⟨bj, _, _, _, rfl, rfl, SqT.of ej, ey, ?_⟩
        have st := st.draw o11 bx11
        have eo := o11.keep po _ (by simp [st.nb]) eo
        refine ⟨_, rfl, .inl ⟨rfl, _, SqL.of eo⟩, _, rfl, _, rfl, _, _, rfl, rfl, sz, fun t ht => ?_⟩
        have ot := Oth.new (S := []) (o := .tup [.str "value", .int (nj.num : Int), .int (500 + (i : Int))]) ht
        have st := st.call ot
        have eo := ot.keep po _ (by simp) eo
        obtain ⟨n1, n2, n3, n4, n5, n6, n7⟩ := st.note (op := .value nj.num (500 + (i : Int))) (x := .ref t) eo (paired_oth (paired_oth po' o11) ot) (.mk3 upd_same (.str _) (.int _) (.int _))
        refine ⟨po, out, _, rfl, rfl, eo, lt, ?_⟩
        generalize upd _ po (.lst (out ++ [.ref t])) = H12 at n1 n2 n3 n4 n5 n6 n7
        have same : ∀ q2 ∈ Sn.all tree, q2.num = nj.num → q2 = nj := fun q2 hq2 e2 => num_inj st.m.sim.nd hq2 mj e2
        have ek : k' = nj.num := by rw [enj]; rfl
        refine ⟨_, rfl, _, rfl, _, rfl, _, _, rfl, rfl, tree, v, nj.num, 500 + (i : Int), rfl, n4, by omega, by omega, fun q2 hq2 e2 => ⟨s', by rw [same q2 hq2 e2, enj]; rfl⟩, fun r4 H13 t4 o13 => ?_⟩
        refine ⟨Sn.pts (.input nj.num (500 + (i : Int))) tree, r4, _, _, _, _, _, _, _, _, _, _, _, _, rfl, n1.oth o13 (by simp) (by simp), ⟨_, o13.keep po _ (by simp) n2, paired_oth n3 o13⟩, t4, n5.oth o13, tabS_oth n6 o13 (fun _ h => nomatch h), st.nb, st.nd, st.m.leaf (.input nj.num (500 + (i : Int))) (.value nj.num (500 + (i : Int))) rfl ⟨s', ?_⟩ rfl fun q2 hq2 e2 => ?_⟩
        · have := (st.m.sim.node mj).1
          rw [this, enj]; rfl
        · rw [same q2 hq2 e2, enj]; rfl
      · exact ⟨tree, v, ops, _, _, _, _, _, _, _, _, _, _, _, rfl, skip st⟩
  · obtain ⟨tree, v, ops, x5, x6, x7, x8, x9, x10, x11, x12, x13, x14, x15, rfl, st⟩ := hW
    obtain ⟨out, eo, po'⟩ := st.pl
    have lo := st.olen po'
    have hn := st.m
    have lB := all_le ok fitB
    have hti := hn.ht
    have hmn := hn.many
    have lt := Sn.len_all tree
    have hr0 : r0.toNat ≤ 10 := by omega
    refine ⟨_, rfl, _, rfl, .inl ⟨po, out, rfl, SqL.of eo, fun t ht => ?_⟩⟩
    have ot := Oth.new (S := []) (o := .tup out) ht
    refine ⟨B, tree, ops, v1, _, rfl, st.t0.oth ot, .mk upd_same (paired_oth po' ot), by omega, by omega, by omega, fam_keys ok fitB, by have := hn.len; omega, hn.runs, hn.sim.gr, fun r H6 tr o6 => ?_⟩
    exact ⟨_, rfl, _, _, _, rfl, tr, (st.tv.oth ot).oth o6, .tup 59 _ (by rw [Sn.toTs_map, List.length_map]; omega) (fun t ht => (Sn.depL tree (by omega) t ht).mono (by omega)), q _⟩
theorem fn_none {P : Program} {w : World} {K : PySem.W.Frag} {mg : Str → Option Value} {base : Heap} {f : Addr} {fd : FuncData} {ps : List Str} {k : Nat} {sp : Sp} (no : ∀ vs H Q E, ¬ sp vs H Q E) : FnOk P w K mg base CX0 k f fd ps sp :=
  ⟨fun vs H Q E h => absurd h (no vs H Q E), fun A outer s H args us vs Q E _ _ _ _ h => absurd h (no vs H Q E)⟩
section
variable {P : Program} {w : World} {K : PySem.W.Frag} {mg : Str → Option Value} {base : Heap}
theorem all_same {f : Addr} {fd : FuncData} (F : Fun K "_law_same" "_law_same" sSame f fd) (bS : Binds K fd ["actual", "expected"] []) (kS : PySem.W.keepIn K (.ref f) = true) (mS : mg "_law_same" = some (.ref f))
    (m_isinstance : mg "isinstance" = none) (m_tuple : mg "tuple" = none) (m_len : mg "len" = none) (m_range : mg "range" = none) (m_bool : mg "bool" = none) (m_int : mg "int" = none) (m_str : mg "str" = none) :
    ∀ n : Nat, FnOk P w K mg base CX0 n f fd ["actual", "expected"] (spSame n)
  | 0 => fn_none fun vs H Q E h => by obtain ⟨t, v, u, _, _, _, h, _⟩ := h; cases h
  | n + 1 => ok_same F (all_same F bS kS mS m_isinstance m_tuple m_len m_range m_bool m_int m_str n) bS kS mS m_isinstance m_tuple m_len m_range m_bool m_int m_str
end
section
variable {P : Program} {w : World} {K : PySem.W.Frag} {mg : Str → Option Value} {base : Heap}
theorem all_tlisted {f : Addr} {fd : FuncData} (F : Fun K "_listed" "_listed" sTListed f fd) (bS : Binds K fd ["nodes", "parent"] []) (kS : PySem.W.keepIn K (.ref f) = true) (mS : mg "_listed" = some (.ref f)) :
    ∀ n : Nat, FnOk P w K mg base CX0 n f fd ["nodes", "parent"] (spListed n)
  | 0 => fn_none fun vs H Q E h => by obtain ⟨ns, p, v, _, _, h, _⟩ := h; omega
  | n + 1 => ok_tlisted F (all_tlisted F bS kS mS n) bS kS mS
theorem all_lall {f : Addr} {fd : FuncData} (F : Fun K "_law_all" "_law_all" sLAll f fd) (bS : Binds K fd ["nodes"] []) (kS : PySem.W.keepIn K (.ref f) = true) (mS : mg "_law_all" = some (.ref f)) :
    ∀ n : Nat, FnOk P w K mg base CX0 n f fd ["nodes"] (spAllT n)
  | 0 => fn_none fun vs H Q E h => by obtain ⟨ns, v, _, _, h, _⟩ := h; omega
  | n + 1 => ok_lall F (all_lall F bS kS mS n) bS kS mS
theorem all_arr {f fR : Addr} {fd dR : FuncData} (F : Fun K "_law_arranged" "_law_arranged" sLArr f fd) (bS : Binds K fd ["box", "forest", "here", "texts", "parent"] []) (kS : PySem.W.keepIn K (.ref f) = true) (mS : mg "_law_arranged" = some (.ref f))
    (GR : FnOk P w K mg base CX0 1 fR dR ["box", "many"] spDraw) (bR : Binds K dR ["box", "many"] []) (kR : PySem.W.keepIn K (.ref fR) = true) (mR : mg "_law_draw" = some (.ref fR))
    (m_range : mg "range" = none) (m_len : mg "len" = none) (m_int : mg "int" = none) (m_tuple : mg "tuple" = none) :
    ∀ n : Nat, FnOk P w K mg base CX0 (n + 1) f fd ["box", "forest", "here", "texts", "parent"] (spArrT n)
  | 0 => fn_none fun vs H Q E h => by
    obtain ⟨b, d, rest, fr, Fo, hr, tr, bs, ts, p, _, _, _, _, _, _, _, _, _, _, _, h1, h2, _⟩ := h
    omega
  | n + 1 => ok_arr F (all_arr F bS kS mS GR bR kR mR m_range m_len m_int m_tuple n) bS kS mS (GR.mono (by omega)) bR kR mR m_range m_len m_int m_tuple
end
section
variable {P : Program} {w : World} {K : PySem.W.Frag} {mg : Str → Option Value} {base : Heap}
theorem all_gtree {f C : Addr} {fd : FuncData} (F : Fun K "tree" "Growing.tree" sGTree f fd) (TC : Cls K C) (nb : NoAttr K C "bare") (nr : NoAttr K C "rows") (bS : Binds K fd ["self", "parent"] []) (mS : Meth K C "tree" f) (m_tuple : mg "tuple" = none) :
    ∀ n : Nat, FnOk P w K mg base CX0 n f fd ["self", "parent"] (spGTree P w C n)
  | 0 => fn_none fun vs H Q E h => by obtain ⟨H0, s, db, dr, da, ad, g, N, p, ns, _, _, _, h, _⟩ := h; omega
  | n + 1 => ok_gtree F TC nb nr (all_gtree F TC nb nr bS mS m_tuple n) bS mS m_tuple
end
section
variable {P : Program} {w : World} {K : PySem.W.Frag} {mg : Str → Option Value} {base : Heap}
theorem all_wo {f : Addr} {fd : FuncData} (F : Fun K "_law_without" "_law_without" sLWo f fd) (bS : Binds K fd ["nodes", "number"] []) (kS : PySem.W.keepIn K (.ref f) = true) (mS : mg "_law_without" = some (.ref f)) (m_tuple : mg "tuple" = none) :
    ∀ n : Nat, FnOk P w K mg base CX0 n f fd ["nodes", "number"] (spWo n)
  | 0 => fn_none fun vs H Q E h => by obtain ⟨ns, v, k, _, _, h, _⟩ := h; omega
  | n + 1 => ok_wo F (all_wo F bS kS mS m_tuple n) bS kS mS m_tuple
theorem all_va {f : Addr} {fd : FuncData} (F : Fun K "_law_value_at" "_law_value_at" sLVa f fd) (bS : Binds K fd ["nodes", "number", "value"] []) (kS : PySem.W.keepIn K (.ref f) = true) (mS : mg "_law_value_at" = some (.ref f)) (m_tuple : mg "tuple" = none) :
    ∀ n : Nat, FnOk P w K mg base CX0 n f fd ["nodes", "number", "value"] (spVa n)
  | 0 => fn_none fun vs H Q E h => by obtain ⟨ns, v, k, x, _, _, h, _⟩ := h; omega
  | n + 1 => ok_va F (all_va F bS kS mS m_tuple n) bS kS mS m_tuple
theorem all_tx {f : Addr} {fd : FuncData} (F : Fun K "_law_text" "_law_text" sLTx f fd) (bS : Binds K fd ["nodes", "number", "characters"] []) (kS : PySem.W.keepIn K (.ref f) = true) (mS : mg "_law_text" = some (.ref f)) (m_tuple : mg "tuple" = none) :
    ∀ n : Nat, FnOk P w K mg base CX0 n f fd ["nodes", "number", "characters"] (spTx n)
  | 0 => fn_none fun vs H Q E h => by obtain ⟨ns, v, k, x, _, _, h, _⟩ := h; omega
  | n + 1 => ok_tx F (all_tx F bS kS mS m_tuple n) bS kS mS m_tuple
theorem all_in {f : Addr} {fd : FuncData} {kc : Nat} (F : Fun K "_law_in" "_law_in" sLIn f fd) (bS : Binds K fd ["nodes", "parent", "change"] []) (kS : PySem.W.keepIn K (.ref f) = true) (mS : mg "_law_in" = some (.ref f)) (m_tuple : mg "tuple" = none) (m_list : mg "list" = none) :
    ∀ n : Nat, FnOk P w K mg base CX0 (kc + n) f fd ["nodes", "parent", "change"] (spIn P w K mg base kc n)
  | 0 => fn_none fun vs H Q E h => by obtain ⟨ns, p, v, g, E', C, f, _, _, h, _⟩ := h; omega
  | n + 1 => ok_in (Nat.le_add_right kc n) F (all_in F bS kS mS m_tuple m_list n) bS kS mS m_tuple m_list
end
theorem all_mk {l : PySem.W.OpenLaw} {w : World} {K : PySem.W.Frag} {h : Heap} {mg : Str → Option Value} {fa fm fTl fTr fTb fGap fC fD fR fS fB fLf fLh fLa fL2t fLal fLfa fLin fLwo fLva fLtx fLbe fZ fGi fGch fGle fGpu fGtr CGr cM tM : Addr} (X : K.In h) (G : h.Ns mainGlobals mg) (hfa : mg "law" = some (.ref fa)) (hfm : mg "law" = some (.ref fm)) (tab : TabAt K fm h)
    {odTl anTl odTr anTr odTb anTb odGap anGap odC anC odD anD odR anR odS anS odB anB odLf anLf odLh anLh odLa anLa odL2t anL2t odLal anLal odLfa anLfa odLin anLin odLwo anLwo odLva anLva odLtx anLtx odLbe anLbe odZ anZ odGi anGi odGch anGch odGle anGle odGpu anGpu odGtr anGtr ddM : Option Addr} {slTl slTr slTb slGap slC slD slR slS slB slLf slLh slLa slL2t slLal slLfa slLin slLwo slLva slLtx slLbe slZ slGi slGch slGle slGpu slGtr slM2 : Array (Option Value)} {ocTl kVTl dcTl pmTl ctTl cdTl ocTr kVTr dcTr pmTr ctTr cdTr ocTb kVTb dcTb pmTb ctTb cdTb ocGap kVGap dcGap pmGap ctGap cdGap ocC kVC dcC pmC ctC cdC ocD kVD dcD pmD ctD cdD ocR kVR dcR pmR ctR cdR ocS kVS dcS pmS ctS cdS ocB kVB dcB pmB ctB cdB ocLf kVLf dcLf pmLf ctLf cdLf ocLh kVLh dcLh pmLh ctLh cdLh ocLa kVLa dcLa pmLa ctLa cdLa ocL2t kVL2t dcL2t pmL2t ctL2t cdL2t ocLal kVLal dcLal pmLal ctLal cdLal ocLfa kVLfa dcLfa pmLfa ctLfa cdLfa ocLin kVLin dcLin pmLin ctLin cdLin ocLwo kVLwo dcLwo pmLwo ctLwo cdLwo ocLva kVLva dcLva pmLva ctLva cdLva ocLtx kVLtx dcLtx pmLtx ctLtx cdLtx ocLbe kVLbe dcLbe pmLbe ctLbe cdLbe ocZ kVZ dcZ pmZ ctZ ocGi kVGi dcGi pmGi ctGi cdGi ocGch kVGch dcGch pmGch ctGch cdGch ocGle kVGle dcGle pmGle ctGle cdGle ocGpu kVGpu dcGpu pmGpu ctGpu cdGpu ocGtr kVGtr dcGtr pmGtr ctGtr cdGtr ceM : Value} {vsM : Array Value}
    (aTl : PySem.W.nsIn K mainGlobals "_listed" = some (some (.ref fTl))) (lTl : K.lookup fTl = some ⟨ocTl, odTl, .func (PySem.W.fnOf "_listed" "_listed" (defArgs sTListed) (defBody sTListed) (defScope sTListed) .none kVTl dcTl pmTl anTl cdTl ctTl), slTl⟩) (hcTl : PySem.W.codeIn K cdTl "_listed" = true) (kTl : PySem.W.keepIn K (.ref fTl) = true)
    (aTr : PySem.W.nsIn K mainGlobals "_rows" = some (some (.ref fTr))) (lTr : K.lookup fTr = some ⟨ocTr, odTr, .func (PySem.W.fnOf "_rows" "_rows" (defArgs sTRows) (defBody sTRows) (defScope sTRows) .none kVTr dcTr pmTr anTr cdTr ctTr), slTr⟩) (hcTr : PySem.W.codeIn K cdTr "_rows" = true) (kTr : PySem.W.keepIn K (.ref fTr) = true)
    (aTb : PySem.W.nsIn K mainGlobals "_bare" = some (some (.ref fTb))) (lTb : K.lookup fTb = some ⟨ocTb, odTb, .func (PySem.W.fnOf "_bare" "_bare" (defArgs sTBare) (defBody sTBare) (defScope sTBare) .none kVTb dcTb pmTb anTb cdTb ctTb), slTb⟩) (hcTb : PySem.W.codeIn K cdTb "_bare" = true) (kTb : PySem.W.keepIn K (.ref fTb) = true)
    (aGap : PySem.W.nsIn K mainGlobals "apply_patch" = some (some (.ref fGap))) (lGap : K.lookup fGap = some ⟨ocGap, odGap, .func (PySem.W.fnOf "apply_patch" "apply_patch" (defArgs sApply) (defBody sApply) (defScope sApply) .none kVGap dcGap pmGap anGap cdGap ctGap), slGap⟩) (hcGap : PySem.W.codeIn K cdGap "apply_patch" = true) (kGap : PySem.W.keepIn K (.ref fGap) = true)
    (aC : PySem.W.nsIn K mainGlobals "_law_cell" = some (some (.ref fC))) (lC : K.lookup fC = some ⟨ocC, odC, .func (PySem.W.fnOf "_law_cell" "_law_cell" (defArgs sCell) (defBody sCell) (defScope sCell) .none kVC dcC pmC anC cdC ctC), slC⟩) (hcC : PySem.W.codeIn K cdC "_law_cell" = true) (kC : PySem.W.keepIn K (.ref fC) = true)
    (aD : PySem.W.nsIn K mainGlobals "_law_digits" = some (some (.ref fD))) (lD : K.lookup fD = some ⟨ocD, odD, .func (PySem.W.fnOf "_law_digits" "_law_digits" (defArgs sDigits) (defBody sDigits) (defScope sDigits) .none kVD dcD pmD anD cdD ctD), slD⟩) (hcD : PySem.W.codeIn K cdD "_law_digits" = true) (kD : PySem.W.keepIn K (.ref fD) = true)
    (aR : PySem.W.nsIn K mainGlobals "_law_draw" = some (some (.ref fR))) (lR : K.lookup fR = some ⟨ocR, odR, .func (PySem.W.fnOf "_law_draw" "_law_draw" (defArgs sDraw) (defBody sDraw) (defScope sDraw) .none kVR dcR pmR anR cdR ctR), slR⟩) (hcR : PySem.W.codeIn K cdR "_law_draw" = true) (kR : PySem.W.keepIn K (.ref fR) = true)
    (aS : PySem.W.nsIn K mainGlobals "_law_same" = some (some (.ref fS))) (lS : K.lookup fS = some ⟨ocS, odS, .func (PySem.W.fnOf "_law_same" "_law_same" (defArgs sSame) (defBody sSame) (defScope sSame) .none kVS dcS pmS anS cdS ctS), slS⟩) (hcS : PySem.W.codeIn K cdS "_law_same" = true) (kS : PySem.W.keepIn K (.ref fS) = true)
    (aB : PySem.W.nsIn K mainGlobals "_law_box" = some (some (.ref fB))) (lB : K.lookup fB = some ⟨ocB, odB, .func (PySem.W.fnOf "_law_box" "_law_box" (defArgs sBox) (defBody sBox) (defScope sBox) .none kVB dcB pmB anB cdB ctB), slB⟩) (hcB : PySem.W.codeIn K cdB "_law_box" = true) (kB : PySem.W.keepIn K (.ref fB) = true)
    (aLf : PySem.W.nsIn K mainGlobals "_law_forest" = some (some (.ref fLf))) (lLf : K.lookup fLf = some ⟨ocLf, odLf, .func (PySem.W.fnOf "_law_forest" "_law_forest" (defArgs sLForest) (defBody sLForest) (defScope sLForest) .none kVLf dcLf pmLf anLf cdLf ctLf), slLf⟩) (hcLf : PySem.W.codeIn K cdLf "_law_forest" = true) (kLf : PySem.W.keepIn K (.ref fLf) = true)
    (aLh : PySem.W.nsIn K mainGlobals "_law_here" = some (some (.ref fLh))) (lLh : K.lookup fLh = some ⟨ocLh, odLh, .func (PySem.W.fnOf "_law_here" "_law_here" (defArgs sLHere) (defBody sLHere) (defScope sLHere) .none kVLh dcLh pmLh anLh cdLh ctLh), slLh⟩) (hcLh : PySem.W.codeIn K cdLh "_law_here" = true) (kLh : PySem.W.keepIn K (.ref fLh) = true)
    (aLa : PySem.W.nsIn K mainGlobals "_law_arranged" = some (some (.ref fLa))) (lLa : K.lookup fLa = some ⟨ocLa, odLa, .func (PySem.W.fnOf "_law_arranged" "_law_arranged" (defArgs sLArr) (defBody sLArr) (defScope sLArr) .none kVLa dcLa pmLa anLa cdLa ctLa), slLa⟩) (hcLa : PySem.W.codeIn K cdLa "_law_arranged" = true) (kLa : PySem.W.keepIn K (.ref fLa) = true)
    (aL2t : PySem.W.nsIn K mainGlobals "_law_two_trees" = some (some (.ref fL2t))) (lL2t : K.lookup fL2t = some ⟨ocL2t, odL2t, .func (PySem.W.fnOf "_law_two_trees" "_law_two_trees" (defArgs sLTwo) (defBody sLTwo) (defScope sLTwo) .none kVL2t dcL2t pmL2t anL2t cdL2t ctL2t), slL2t⟩) (hcL2t : PySem.W.codeIn K cdL2t "_law_two_trees" = true) (kL2t : PySem.W.keepIn K (.ref fL2t) = true)
    (aLal : PySem.W.nsIn K mainGlobals "_law_all" = some (some (.ref fLal))) (lLal : K.lookup fLal = some ⟨ocLal, odLal, .func (PySem.W.fnOf "_law_all" "_law_all" (defArgs sLAll) (defBody sLAll) (defScope sLAll) .none kVLal dcLal pmLal anLal cdLal ctLal), slLal⟩) (hcLal : PySem.W.codeIn K cdLal "_law_all" = true) (kLal : PySem.W.keepIn K (.ref fLal) = true)
    (aLfa : PySem.W.nsIn K mainGlobals "_law_families" = some (some (.ref fLfa))) (lLfa : K.lookup fLfa = some ⟨ocLfa, odLfa, .func (PySem.W.fnOf "_law_families" "_law_families" (defArgs sLFam) (defBody sLFam) (defScope sLFam) .none kVLfa dcLfa pmLfa anLfa cdLfa ctLfa), slLfa⟩) (hcLfa : PySem.W.codeIn K cdLfa "_law_families" = true) (kLfa : PySem.W.keepIn K (.ref fLfa) = true)
    (aLin : PySem.W.nsIn K mainGlobals "_law_in" = some (some (.ref fLin))) (lLin : K.lookup fLin = some ⟨ocLin, odLin, .func (PySem.W.fnOf "_law_in" "_law_in" (defArgs sLIn) (defBody sLIn) (defScope sLIn) .none kVLin dcLin pmLin anLin cdLin ctLin), slLin⟩) (hcLin : PySem.W.codeIn K cdLin "_law_in" = true) (kLin : PySem.W.keepIn K (.ref fLin) = true)
    (aLwo : PySem.W.nsIn K mainGlobals "_law_without" = some (some (.ref fLwo))) (lLwo : K.lookup fLwo = some ⟨ocLwo, odLwo, .func (PySem.W.fnOf "_law_without" "_law_without" (defArgs sLWo) (defBody sLWo) (defScope sLWo) .none kVLwo dcLwo pmLwo anLwo cdLwo ctLwo), slLwo⟩) (hcLwo : PySem.W.codeIn K cdLwo "_law_without" = true) (kLwo : PySem.W.keepIn K (.ref fLwo) = true)
    (aLva : PySem.W.nsIn K mainGlobals "_law_value_at" = some (some (.ref fLva))) (lLva : K.lookup fLva = some ⟨ocLva, odLva, .func (PySem.W.fnOf "_law_value_at" "_law_value_at" (defArgs sLVa) (defBody sLVa) (defScope sLVa) .none kVLva dcLva pmLva anLva cdLva ctLva), slLva⟩) (hcLva : PySem.W.codeIn K cdLva "_law_value_at" = true) (kLva : PySem.W.keepIn K (.ref fLva) = true)
    (aLtx : PySem.W.nsIn K mainGlobals "_law_text" = some (some (.ref fLtx))) (lLtx : K.lookup fLtx = some ⟨ocLtx, odLtx, .func (PySem.W.fnOf "_law_text" "_law_text" (defArgs sLTx) (defBody sLTx) (defScope sLTx) .none kVLtx dcLtx pmLtx anLtx cdLtx ctLtx), slLtx⟩) (hcLtx : PySem.W.codeIn K cdLtx "_law_text" = true) (kLtx : PySem.W.keepIn K (.ref fLtx) = true)
    (aLbe : PySem.W.nsIn K mainGlobals "_law_before" = some (some (.ref fLbe))) (lLbe : K.lookup fLbe = some ⟨ocLbe, odLbe, .func (PySem.W.fnOf "_law_before" "_law_before" (defArgs sLBe) (defBody sLBe) (defScope sLBe) .none kVLbe dcLbe pmLbe anLbe cdLbe ctLbe), slLbe⟩) (hcLbe : PySem.W.codeIn K cdLbe "_law_before" = true) (kLbe : PySem.W.keepIn K (.ref fLbe) = true)
    (aZ : PySem.W.nsIn K mainGlobals "law" = some (some (.ref fZ))) (lZ : K.lookup fZ = some ⟨ocZ, odZ, .func (PySem.W.fnOf "law" "law" (defArgs sLaw) (defBody sLaw) (defScope sLaw) .none kVZ dcZ pmZ anZ (.ref cM) ctZ), slZ⟩) (hcZ : PySem.W.codeIn K (.ref cM) "law" = true) (kZ : PySem.W.keepIn K (.ref fZ) = true)
    (aGi : PySem.W.findIn K (.ref CGr) "__init__" = some (some (.ref fGi))) (iGi : PySem.W.isFn K (.ref fGi) = true) (lGi : K.lookup fGi = some ⟨ocGi, odGi, .func (PySem.W.fnOf "__init__" "Growing.__init__" (defArgs sGInit) (defBody sGInit) (defScope sGInit) .none kVGi dcGi pmGi anGi cdGi ctGi), slGi⟩) (hcGi : PySem.W.codeIn K cdGi "Growing.__init__" = true) (kGi : PySem.W.keepIn K (.ref fGi) = true)
    (aGch : PySem.W.findIn K (.ref CGr) "change" = some (some (.ref fGch))) (iGch : PySem.W.isFn K (.ref fGch) = true) (lGch : K.lookup fGch = some ⟨ocGch, odGch, .func (PySem.W.fnOf "change" "Growing.change" (defArgs sGChange) (defBody sGChange) (defScope sGChange) .none kVGch dcGch pmGch anGch cdGch ctGch), slGch⟩) (hcGch : PySem.W.codeIn K cdGch "Growing.change" = true) (kGch : PySem.W.keepIn K (.ref fGch) = true)
    (aGle : PySem.W.findIn K (.ref CGr) "leave" = some (some (.ref fGle))) (iGle : PySem.W.isFn K (.ref fGle) = true) (lGle : K.lookup fGle = some ⟨ocGle, odGle, .func (PySem.W.fnOf "leave" "Growing.leave" (defArgs sGLeave) (defBody sGLeave) (defScope sGLeave) .none kVGle dcGle pmGle anGle cdGle ctGle), slGle⟩) (hcGle : PySem.W.codeIn K cdGle "Growing.leave" = true) (kGle : PySem.W.keepIn K (.ref fGle) = true)
    (aGpu : PySem.W.findIn K (.ref CGr) "put" = some (some (.ref fGpu))) (iGpu : PySem.W.isFn K (.ref fGpu) = true) (lGpu : K.lookup fGpu = some ⟨ocGpu, odGpu, .func (PySem.W.fnOf "put" "Growing.put" (defArgs sGPut) (defBody sGPut) (defScope sGPut) .none kVGpu dcGpu pmGpu anGpu cdGpu ctGpu), slGpu⟩) (hcGpu : PySem.W.codeIn K cdGpu "Growing.put" = true) (kGpu : PySem.W.keepIn K (.ref fGpu) = true)
    (aGtr : PySem.W.findIn K (.ref CGr) "tree" = some (some (.ref fGtr))) (iGtr : PySem.W.isFn K (.ref fGtr) = true) (lGtr : K.lookup fGtr = some ⟨ocGtr, odGtr, .func (PySem.W.fnOf "tree" "Growing.tree" (defArgs sGTree) (defBody sGTree) (defScope sGTree) .none kVGtr dcGtr pmGtr anGtr cdGtr ctGtr), slGtr⟩) (hcGtr : PySem.W.codeIn K cdGtr "Growing.tree" = true) (kGtr : PySem.W.keepIn K (.ref fGtr) = true)
    (dM : K.lookup cM = some ⟨ceM, ddM, .fields vsM, slM2⟩) (eM : vsM[11]? = some (.ref tM)) (nM : K.lookup tM = none)
    (aCGr : PySem.W.nsIn K mainGlobals "Growing" = some (some (.ref CGr))) (pgGr : PySem.W.plainGet K CGr Str.empty = true) (hdGr : PySem.W.hasDictIn K CGr = true) (poGr : PySem.W.plainOver K CGr = true) (saGr : PySem.W.findIn K (.ref CGr) "__setattr__" = some (some (.builtin "object.__setattr__"))) (mkGr : PySem.W.makesIn K CGr = true) (kCGr : PySem.W.keepIn K (.ref CGr) = true)
    (nGr_bare : PySem.W.findIn K (.ref CGr) "bare" = some none)
    (nGr_rows : PySem.W.findIn K (.ref CGr) "rows" = some none)
    (nGr_around : PySem.W.findIn K (.ref CGr) "around" = some none)
    (z_len : PySem.W.nsIn K mainGlobals "len" = some none)
    (z_range : PySem.W.nsIn K mainGlobals "range" = some none)
    (z_int : PySem.W.nsIn K mainGlobals "int" = some none)
    (z_isinstance : PySem.W.nsIn K mainGlobals "isinstance" = some none)
    (z_tuple : PySem.W.nsIn K mainGlobals "tuple" = some none)
    (z_bool : PySem.W.nsIn K mainGlobals "bool" = some none)
    (z_str : PySem.W.nsIn K mainGlobals "str" = some none)
    (z_list : PySem.W.nsIn K mainGlobals "list" = some none) :
    LamX.LawAtS l w K CX0 61 63 "script" mg fa h := by
  have e := hfa.symm.trans (PySem.W.mg_of X G aZ)
  cases e
  have e' := hfm.symm.trans (PySem.W.mg_of X G aZ)
  cases e'
  have FTl := fun_mk (st := sTListed) lTl hcTl kTl
  have mTl := PySem.W.mg_of X G aTl
  have bTl := FTl.binds (ps := ["nodes", "parent"]) fun _ _ _ _ _ _ us hl => match us, hl with | [_, _], _ => rfl
  have FTr := fun_mk (st := sTRows) lTr hcTr kTr
  have mTr := PySem.W.mg_of X G aTr
  have bTr := FTr.binds (ps := ["tree"]) fun _ _ _ _ _ _ us hl => match us, hl with | [_], _ => rfl
  have FTb := fun_mk (st := sTBare) lTb hcTb kTb
  have mTb := PySem.W.mg_of X G aTb
  have bTb := FTb.binds (ps := ["node"]) fun _ _ _ _ _ _ us hl => match us, hl with | [_], _ => rfl
  have FGap := fun_mk (st := sApply) lGap hcGap kGap
  have mGap := PySem.W.mg_of X G aGap
  have bGap := FGap.binds (ps := ["tree", "operations"]) fun _ _ _ _ _ _ us hl => match us, hl with | [_, _], _ => rfl
  have FC := fun_mk (st := sCell) lC hcC kC
  have mC := PySem.W.mg_of X G aC
  have bC := FC.binds (ps := ["script", "k"]) fun _ _ _ _ _ _ us hl => match us, hl with | [_, _], _ => rfl
  have FD := fun_mk (st := sDigits) lD hcD kD
  have mD := PySem.W.mg_of X G aD
  have bD := FD.binds (ps := ["script", "first", "last"]) fun _ _ _ _ _ _ us hl => match us, hl with | [_, _, _], _ => rfl
  have FR := fun_mk (st := sDraw) lR hcR kR
  have mR := PySem.W.mg_of X G aR
  have bR := FR.binds (ps := ["box", "many"]) fun _ _ _ _ _ _ us hl => match us, hl with | [_, _], _ => rfl
  have FS := fun_mk (st := sSame) lS hcS kS
  have mS := PySem.W.mg_of X G aS
  have bS := FS.binds (ps := ["actual", "expected"]) fun _ _ _ _ _ _ us hl => match us, hl with | [_, _], _ => rfl
  have FB := fun_mk (st := sBox) lB hcB kB
  have mB := PySem.W.mg_of X G aB
  have bB := FB.binds (ps := ["script", "first", "last"]) fun _ _ _ _ _ _ us hl => match us, hl with | [_, _, _], _ => rfl
  have FLf := fun_mk (st := sLForest) lLf hcLf kLf
  have mLf := PySem.W.mg_of X G aLf
  have bLf := FLf.binds (ps := ["box"]) fun _ _ _ _ _ _ us hl => match us, hl with | [_], _ => rfl
  have FLh := fun_mk (st := sLHere) lLh hcLh kLh
  have mLh := PySem.W.mg_of X G aLh
  have bLh := FLh.binds (ps := ["box", "forest"]) fun _ _ _ _ _ _ us hl => match us, hl with | [_, _], _ => rfl
  have FLa := fun_mk (st := sLArr) lLa hcLa kLa
  have mLa := PySem.W.mg_of X G aLa
  have bLa := FLa.binds (ps := ["box", "forest", "here", "texts", "parent"]) fun _ _ _ _ _ _ us hl => match us, hl with | [_, _, _, _, _], _ => rfl
  have FL2t := fun_mk (st := sLTwo) lL2t hcL2t kL2t
  have mL2t := PySem.W.mg_of X G aL2t
  have bL2t := FL2t.binds (ps := ["box"]) fun _ _ _ _ _ _ us hl => match us, hl with | [_], _ => rfl
  have FLal := fun_mk (st := sLAll) lLal hcLal kLal
  have mLal := PySem.W.mg_of X G aLal
  have bLal := FLal.binds (ps := ["nodes"]) fun _ _ _ _ _ _ us hl => match us, hl with | [_], _ => rfl
  have FLfa := fun_mk (st := sLFam) lLfa hcLfa kLfa
  have mLfa := PySem.W.mg_of X G aLfa
  have bLfa := FLfa.binds (ps := ["nodes"]) fun _ _ _ _ _ _ us hl => match us, hl with | [_], _ => rfl
  have FLin := fun_mk (st := sLIn) lLin hcLin kLin
  have mLin := PySem.W.mg_of X G aLin
  have bLin := FLin.binds (ps := ["nodes", "parent", "change"]) fun _ _ _ _ _ _ us hl => match us, hl with | [_, _, _], _ => rfl
  have FLwo := fun_mk (st := sLWo) lLwo hcLwo kLwo
  have mLwo := PySem.W.mg_of X G aLwo
  have bLwo := FLwo.binds (ps := ["nodes", "number"]) fun _ _ _ _ _ _ us hl => match us, hl with | [_, _], _ => rfl
  have FLva := fun_mk (st := sLVa) lLva hcLva kLva
  have mLva := PySem.W.mg_of X G aLva
  have bLva := FLva.binds (ps := ["nodes", "number", "value"]) fun _ _ _ _ _ _ us hl => match us, hl with | [_, _, _], _ => rfl
  have FLtx := fun_mk (st := sLTx) lLtx hcLtx kLtx
  have mLtx := PySem.W.mg_of X G aLtx
  have bLtx := FLtx.binds (ps := ["nodes", "number", "characters"]) fun _ _ _ _ _ _ us hl => match us, hl with | [_, _, _], _ => rfl
  have FLbe := fun_mk (st := sLBe) lLbe hcLbe kLbe
  have mLbe := PySem.W.mg_of X G aLbe
  have bLbe := FLbe.binds (ps := ["rows", "node", "behind"]) fun _ _ _ _ _ _ us hl => match us, hl with | [_, _, _], _ => rfl
  have FZ := fun_mk (st := sLaw) lZ hcZ kZ
  have mZ := PySem.W.mg_of X G aZ
  have FGi := fun_mk (st := sGInit) lGi hcGi kGi
  have mtGi : Meth K CGr "__init__" fGi := ⟨aGi, iGi, kGi⟩
  have MkGi : Mk K CGr fGi := ⟨mkGr, aGi, iGi, kCGr⟩
  have bGi := FGi.binds (ps := ["self", "tree"]) fun _ _ _ _ _ _ us hl => match us, hl with | [_, _], _ => rfl
  have FGch := fun_mk (st := sGChange) lGch hcGch kGch
  have mtGch : Meth K CGr "change" fGch := ⟨aGch, iGch, kGch⟩
  have bGch := FGch.binds (ps := ["self", "operation"]) fun _ _ _ _ _ _ us hl => match us, hl with | [_, _], _ => rfl
  have FGle := fun_mk (st := sGLeave) lGle hcGle kGle
  have mtGle : Meth K CGr "leave" fGle := ⟨aGle, iGle, kGle⟩
  have bGle := FGle.binds (ps := ["self", "number"]) fun _ _ _ _ _ _ us hl => match us, hl with | [_, _], _ => rfl
  have FGpu := fun_mk (st := sGPut) lGpu hcGpu kGpu
  have mtGpu : Meth K CGr "put" fGpu := ⟨aGpu, iGpu, kGpu⟩
  have bGpu := FGpu.binds (ps := ["self", "number", "parent", "behind"]) fun _ _ _ _ _ _ us hl => match us, hl with | [_, _, _, _], _ => rfl
  have FGtr := fun_mk (st := sGTree) lGtr hcGtr kGtr
  have mtGtr : Meth K CGr "tree" fGtr := ⟨aGtr, iGtr, kGtr⟩
  have bGtr := FGtr.binds (ps := ["self", "parent"]) fun _ _ _ _ _ _ us hl => match us, hl with | [_, _], _ => rfl
  have TCGr : Cls K CGr := ⟨pgGr, hdGr, poGr, saGr⟩
  have mGrowing := PySem.W.mg_of X G aCGr
  have m_len := PySem.W.mg_none_of X G z_len
  have m_range := PySem.W.mg_none_of X G z_range
  have m_int := PySem.W.mg_none_of X G z_int
  have m_isinstance := PySem.W.mg_none_of X G z_isinstance
  have m_tuple := PySem.W.mg_none_of X G z_tuple
  have m_bool := PySem.W.mg_none_of X G z_bool
  have m_str := PySem.W.mg_none_of X G z_str
  have m_list := PySem.W.mg_none_of X G z_list
  have CM' : CodeAt K "law" sLaw _ _ cM := ⟨_, _, _, _, _, _, _, _, rfl, lZ, hcZ, kZ⟩
  obtain ⟨hT, hC⟩ := tab cM tM _ _ _ _ _ _ lZ rfl rfl dM eM
  refine ⟨PySem.W.fnOf "law" "law" (defArgs sLaw) (defBody sLaw) (defScope sLaw) .none kVZ dcZ pmZ anZ (.ref cM) ctZ, [(cM, tM)], spLawK51 tM K, ?_, ?_, ?_, fun s v => .of_eq rfl, fun H a ns hl _ hH hS => ⟨a, ns, rfl, hS, hl, hH _ List.mem_cons_self, fun _ => rfl⟩, fun base _ _ tb => ?_⟩
  · intro p hp; rw [List.mem_singleton.mp hp]; exact hT
  · intro p hp; rw [List.mem_singleton.mp hp]; exact nM
  · intro p hp; rw [List.mem_singleton.mp hp]; exact hC
  have TB := tb _ List.mem_cons_self
  have gC := ok_cell (P := l.prog) (w := w) (base := base) (k := 0) FC m_len
  have gD := ok_digits (k := 1) FD gC bC kC mC m_range m_int
  have gR := ok_draw (P := l.prog) (w := w) (base := base) (k := 0) FR m_len m_int
  have gS := all_same (P := l.prog) (w := w) (base := base) FS bS kS mS m_isinstance m_tuple m_len m_range m_bool m_int m_str 60
  have gB := ok_boxT (k := 2) FB gD bD kD mD
  have gTl := all_tlisted (P := l.prog) (w := w) (mg := mg) (base := base) FTl bTl kTl mTl 23
  have gTrD := ok_trowsD (k := 23) FTr gTl bTl kTl mTl
  have gTb := ok_tbare (P := l.prog) (w := w) (mg := mg) (base := base) (k := 0) FTb
  have gLf := ok_forest (k := 1) FLf gR bR kR mR m_range m_len
  have gLh := ok_here (k := 1) FLh gR bR kR mR m_range m_len
  have gLa := all_arr FLa bLa kLa mLa gR bR kR mR m_range m_len m_int m_tuple 13
  have gL2t := ok_two (k := 14) FL2t (gR.mono (by decide)) bR kR mR (gLf.mono (by decide)) bLf kLf mLf (gLh.mono (by decide)) bLh kLh mLh gLa bLa kLa mLa m_range m_len m_int
  have gLal := all_lall (P := l.prog) (w := w) (mg := mg) (base := base) FLal bLal kLal mLal 23
  have gLfa := ok_lfam (k := 23) FLfa gLal bLal kLal mLal m_list
  have gGle := ok_gleave (P := l.prog) (w := w) (mg := mg) (base := base) (k := 0) FGle TCGr nGr_rows nGr_around
  have gGpu := ok_gput (P := l.prog) (w := w) (mg := mg) (base := base) (k := 0) FGpu TCGr nGr_rows nGr_around m_len
  have gGch := ok_gchange (k := 1) FGch TCGr nGr_bare nGr_rows gGle bGle mtGle gGpu bGpu mtGpu
  have gGi := ok_ginit (k := 24) FGi TCGr nGr_bare nGr_rows nGr_around (gTl.mono (by decide)) bTl kTl mTl gTrD bTr kTr mTr (gTb.mono (by decide)) bTb kTb mTb
  have gGtr := all_gtree (P := l.prog) (w := w) (mg := mg) (base := base) FGtr TCGr nGr_bare nGr_rows bGtr mtGtr m_tuple 23
  have gGap := ok_apply (k := 25) FGap TCGr MkGi mGrowing gGi bGi (gGch.mono (by decide)) bGch mtGch (gGtr.mono (by decide)) bGtr mtGtr
  have gLwo := all_wo (P := l.prog) (w := w) (mg := mg) (base := base) FLwo bLwo kLwo mLwo m_tuple 23
  have gLva := all_va (P := l.prog) (w := w) (mg := mg) (base := base) FLva bLva kLva mLva m_tuple 23
  have gLtx := all_tx (P := l.prog) (w := w) (mg := mg) (base := base) FLtx bLtx kLtx mLtx m_tuple 23
  have gLbe := ok_be (P := l.prog) (w := w) (mg := mg) (base := base) (k := 0) FLbe m_len m_tuple
  have gLin := all_in (P := l.prog) (w := w) (mg := mg) (base := base) (kc := 2) FLin bLin kLin mLin m_tuple m_list 23
  exact ok_law (k := 60) (kb := 1) CM' TB (gB.mono (by decide)) bB kB mB (gL2t.mono (by decide)) bL2t kL2t mL2t (gR.mono (by decide)) bR kR mR (gLal.mono (by decide)) bLal kLal mLal (gLfa.mono (by decide)) bLfa kLfa mLfa (gLwo.mono (by decide)) bLwo kLwo mLwo (gLva.mono (by decide)) bLva kLva mLva (gLtx.mono (by decide)) bLtx kLtx mLtx gLbe bLbe kLbe mLbe (gLin.mono (by decide)) bLin kLin mLin (gGap.mono (by decide)) bGap kGap mGap (gS.mono (by decide)) bS kS mS m_range m_len m_str m_tuple
end Pw
open PySem PySem.W PyProof.Rows
set_option maxRecDepth 100000 in
set_option maxHeartbeats 0 in
theorem PySem.Challenge.cw_pagewake_k51_operations_on_a_tree_holds : PySem.Challenge.rw_pagewake_k51_operations_on_a_tree.Holds := by
  w_on; o_law; k_head; (case hw => w_witness2)
  k_fill
  refine Pw.walk_tab (l := PySem.Challenge.rw_pagewake_k51_operations_on_a_tree) (n := 63) (k := 61) (x := "script") (nm := "law") rfl (by decide) rfl ⟨rfl, by decide, by decide⟩ ?R (fun w h Y => PySem.W.km_in_of Y) ?F
  case R => first | rfl | decide +kernel
  case F =>
    intro w mg fa fm h KX G hmg hmt tab
    refine' Pw.all_mk KX G hmg hmt tab ?qaTl ?qlTl ?qhcTl ?qkTl ?qaTr ?qlTr ?qhcTr ?qkTr ?qaTb ?qlTb ?qhcTb ?qkTb ?qaGap ?qlGap ?qhcGap ?qkGap ?qaC ?qlC ?qhcC ?qkC ?qaD ?qlD ?qhcD ?qkD ?qaR ?qlR ?qhcR ?qkR ?qaS ?qlS ?qhcS ?qkS ?qaB ?qlB ?qhcB ?qkB ?qaLf ?qlLf ?qhcLf ?qkLf ?qaLh ?qlLh ?qhcLh ?qkLh ?qaLa ?qlLa ?qhcLa ?qkLa ?qaL2t ?qlL2t ?qhcL2t ?qkL2t ?qaLal ?qlLal ?qhcLal ?qkLal ?qaLfa ?qlLfa ?qhcLfa ?qkLfa ?qaLin ?qlLin ?qhcLin ?qkLin ?qaLwo ?qlLwo ?qhcLwo ?qkLwo ?qaLva ?qlLva ?qhcLva ?qkLva ?qaLtx ?qlLtx ?qhcLtx ?qkLtx ?qaLbe ?qlLbe ?qhcLbe ?qkLbe ?qaZ ?qlZ ?qhcZ ?qkZ ?qaGi ?qiGi ?qlGi ?qhcGi ?qkGi ?qaGch ?qiGch ?qlGch ?qhcGch ?qkGch ?qaGle ?qiGle ?qlGle ?qhcGle ?qkGle ?qaGpu ?qiGpu ?qlGpu ?qhcGpu ?qkGpu ?qaGtr ?qiGtr ?qlGtr ?qhcGtr ?qkGtr ?qdM ?qeM ?qnM ?qaCGr ?qpgGr ?qhdGr ?qpoGr ?qsaGr ?qmkGr ?qkCGr ?qnGr_bare ?qnGr_rows ?qnGr_around ?qz_len ?qz_range ?qz_int ?qz_isinstance ?qz_tuple ?qz_bool ?qz_str ?qz_list
    (case qaCGr => k_is)
    (case qaTl => k_is)
    (case qlTl => k_is)
    (case qhcTl => k_is)
    (case qkTl => k_is)
    (case qaTr => k_is)
    (case qlTr => k_is)
    (case qhcTr => k_is)
    (case qkTr => k_is)
    (case qaTb => k_is)
    (case qlTb => k_is)
    (case qhcTb => k_is)
    (case qkTb => k_is)
    (case qaGap => k_is)
    (case qlGap => k_is)
    (case qhcGap => k_is)
    (case qkGap => k_is)
    (case qaC => k_is)
    (case qlC => k_is)
    (case qhcC => k_is)
    (case qkC => k_is)
    (case qaD => k_is)
    (case qlD => k_is)
    (case qhcD => k_is)
    (case qkD => k_is)
    (case qaR => k_is)
    (case qlR => k_is)
    (case qhcR => k_is)
    (case qkR => k_is)
    (case qaS => k_is)
    (case qlS => k_is)
    (case qhcS => k_is)
    (case qkS => k_is)
    (case qaB => k_is)
    (case qlB => k_is)
    (case qhcB => k_is)
    (case qkB => k_is)
    (case qaLf => k_is)
    (case qlLf => k_is)
    (case qhcLf => k_is)
    (case qkLf => k_is)
    (case qaLh => k_is)
    (case qlLh => k_is)
    (case qhcLh => k_is)
    (case qkLh => k_is)
    (case qaLa => k_is)
    (case qlLa => k_is)
    (case qhcLa => k_is)
    (case qkLa => k_is)
    (case qaL2t => k_is)
    (case qlL2t => k_is)
    (case qhcL2t => k_is)
    (case qkL2t => k_is)
    (case qaLal => k_is)
    (case qlLal => k_is)
    (case qhcLal => k_is)
    (case qkLal => k_is)
    (case qaLfa => k_is)
    (case qlLfa => k_is)
    (case qhcLfa => k_is)
    (case qkLfa => k_is)
    (case qaLin => k_is)
    (case qlLin => k_is)
    (case qhcLin => k_is)
    (case qkLin => k_is)
    (case qaLwo => k_is)
    (case qlLwo => k_is)
    (case qhcLwo => k_is)
    (case qkLwo => k_is)
    (case qaLva => k_is)
    (case qlLva => k_is)
    (case qhcLva => k_is)
    (case qkLva => k_is)
    (case qaLtx => k_is)
    (case qlLtx => k_is)
    (case qhcLtx => k_is)
    (case qkLtx => k_is)
    (case qaLbe => k_is)
    (case qlLbe => k_is)
    (case qhcLbe => k_is)
    (case qkLbe => k_is)
    (case qaZ => k_is)
    (case qlZ => k_is)
    (case qhcZ => k_is)
    (case qkZ => k_is)
    (case qaGi => k_is)
    (case qiGi => k_is)
    (case qlGi => k_is)
    (case qhcGi => k_is)
    (case qkGi => k_is)
    (case qaGch => k_is)
    (case qiGch => k_is)
    (case qlGch => k_is)
    (case qhcGch => k_is)
    (case qkGch => k_is)
    (case qaGle => k_is)
    (case qiGle => k_is)
    (case qlGle => k_is)
    (case qhcGle => k_is)
    (case qkGle => k_is)
    (case qaGpu => k_is)
    (case qiGpu => k_is)
    (case qlGpu => k_is)
    (case qhcGpu => k_is)
    (case qkGpu => k_is)
    (case qaGtr => k_is)
    (case qiGtr => k_is)
    (case qlGtr => k_is)
    (case qhcGtr => k_is)
    (case qkGtr => k_is)
    (case qdM => k_is)
    (case qeM => rfl)
    (case qnM => first | kernel_rfl | rfl | decide +kernel)
    (case qpgGr => k_is)
    (case qhdGr => k_is)
    (case qpoGr => k_is)
    (case qsaGr => k_is)
    (case qmkGr => k_is)
    (case qkCGr => k_is)
    (case qnGr_bare => k_is)
    (case qnGr_rows => k_is)
    (case qnGr_around => k_is)
    (case qz_len => k_is)
    (case qz_range => k_is)
    (case qz_int => k_is)
    (case qz_isinstance => k_is)
    (case qz_tuple => k_is)
    (case qz_bool => k_is)
    (case qz_str => k_is)
    (case qz_list => k_is)
